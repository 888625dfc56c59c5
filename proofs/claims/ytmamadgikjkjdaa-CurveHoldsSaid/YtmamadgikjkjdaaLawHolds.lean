/- CurveHolds' walk: every frame of a trace that conforms to two buckets has its latest departure at most Delay after its arrival. -/
import Derived.Test.YtmamadgikjkjdaaHoldMath
import Derived.Test.YtmamadgikjkjdaaLawWaits
namespace Go.Proofs.Ytmamadgikjkjdaa
open Go Go.RowKit

set_option maxRecDepth 100000 in
set_option maxHeartbeats 8000000 in
theorem holds_walk (B R : Int) (ga sa : Option Addr) (gl gc sl sc : Nat) (gs ss : List Int) (bu ra mo L : Int) (w : World) (hD : Hid (DraftAt w (.agg #[.int .u32 B, .int .u32 R, .slice ga gl gc, .slice sa sl sc]) B R gs ss)) (X Y : Int) (HX : Hid (bOf B = X)) (HY : Hid (rOf R = Y)) (Hb : Hid (okBk X Y = true)) (l : List (Int × Int)) (Hl : Hid (traceD gs ss (min ss.length 30) = l)) (Hok : Hid (okT l = true)) (hlen30 : l.length ≤ 30) (hbu : 0 ≤ bu ∧ bu ≤ 65535) (hra : 0 ≤ ra ∧ ra ≤ 4294967295) (hmo : 0 ≤ mo ∧ mo ≤ 4294967295) (hL : 0 ≤ L ∧ L ≤ 65535) :
    Calls Try.prog 9 #[.agg #[.int .u32 B, .int .u32 R, .slice ga gl gc, .slice sa sl sc], .int .u16 bu, .int .u32 ra, .int .u32 mo, .int .u16 L] w (Res (.bool true) w) := by
  have bk := okBk_iff.1 Hb.out
  have d0 : (w.alloc (.cells #[.int .u32 B, .int .u32 R, .slice ga gl gc, .slice sa sl sc] 25)).cell? ⟨w.heap.size, 0, none⟩ = some (.int .u32 B) := by simp [go_sem]
  have d1 : (w.alloc (.cells #[.int .u32 B, .int .u32 R, .slice ga gl gc, .slice sa sl sc] 25)).cell? ⟨w.heap.size, 1, none⟩ = some (.int .u32 R) := by simp [go_sem]
  have d2 : (w.alloc (.cells #[.int .u32 B, .int .u32 R, .slice ga gl gc, .slice sa sl sc] 25)).cell? ⟨w.heap.size, 2, none⟩ = some (.slice ga gl gc) := by simp [go_sem]
  have d3 : (w.alloc (.cells #[.int .u32 B, .int .u32 R, .slice ga gl gc, .slice sa sl sc] 25)).cell? ⟨w.heap.size, 3, none⟩ = some (.slice sa sl sc) := by simp [go_sem]
  have KK := Lib.hid (Keep.alloc (Keep.refl w) (.cells #[.int .u32 B, .int .u32 R, .slice ga gl gc, .slice sa sl sc] 25))
  have HD := Lib.hid (hD.out.keep KK.out)
  clear hD
  obtain ⟨Bo, hBo⟩ : ∃ x, 1 + bu = x := ⟨_, rfl⟩
  obtain ⟨Ro, hRo⟩ : ∃ x, 1 + ra % 2097152 = x := ⟨_, rfl⟩
  obtain ⟨mn, hmn⟩ : ∃ x, min Y Ro = x := ⟨_, rfl⟩
  obtain ⟨S, hS⟩ : ∃ S, min 2097152 (mn + mo % 262144) = S := ⟨_, rfl⟩
  have bo : 1 ≤ Bo ∧ Bo ≤ 65536 ∧ 1 ≤ Ro ∧ Ro ≤ 2097152 := by omega
  have bS : 1 ≤ S ∧ S ≤ 2097152 ∧ (Y ≤ S ∨ Ro ≤ S) := by omega
  have HSv : Hid (okSv S L = true) := Lib.hid (okSv_of (by omega))
  have HBo : Hid (okBk Bo Ro = true) := Lib.hid (okBk_iff.2 (by omega))
  obtain ⟨cl, hcl⟩ : ∃ cl, clearS [(X, Y), (Bo, Ro)] S = cl := ⟨_, rfl⟩
  have H1 : Hid (delayR [(X, Y), (Bo, Ro)] S L = (L + cl, 0)) := Lib.hid (by rw [delay_two Hb.out HBo.out HSv.out bS.2.2, hcl])
  have bcl : 0 ≤ cl ∧ cl ≤ 1125899906842624 := by
    have := clearS_bd (l := [(X, Y), (Bo, Ro)]) (R := S) (each_two (by omega) (by omega) (by omega) (by omega)) bS.1
    rw [hcl] at this
    exact this
  obtain ⟨dl, hdl⟩ : ∃ dl, L + cl = dl := ⟨_, rfl⟩
  rw [hdl] at H1
  have bdl : 0 ≤ dl ∧ dl ≤ 1125899906842624 + 65535 := by omega
  have hle : (confL Bo Ro (confL X Y l)).length ≤ 30 := Nat.le_trans (confL_sublist Bo Ro _).length_le (Nat.le_trans (confL_sublist X Y l).length_le hlen30)
  obtain ⟨c, hc⟩ : ∃ c, confL Bo Ro (confL X Y l) = c := ⟨_, rfl⟩
  have hok : okT c = true := by rw [← hc]; exact okT_confL (okT_confL Hok.out)
  have gb : ∀ i j : Nat, i ≤ j → j < c.length → gapB Bo Ro (atL c) (szL c) i j = true := fun i j hij hj => by rw [← hc] at hj ⊢; exact confL_gap hj hij
  have ga : ∀ i j : Nat, i ≤ j → j < c.length → gapB X Y (atL c) (szL c) i j = true := fun i j hij hj => by
    have h := fits_sub (B := X) (R := Y) (by omega) (by omega) (okT_confL Hok.out) (confL_sublist Bo Ro (confL X Y l)) (confL_fits X Y l)
    rw [hc] at h
    unfold fitsL at h
    exact fitsB_iff.1 h j hj i hij
  have hm : ∀ j, j < c.length → L + ceilD (doneS (atL c) (szL c) S (j + 1)) S ≤ atL c j + dl := fun j hj => by
    have := hold_math (L := L) hok bS.1 ga gb hj
    rw [hcl, hdl] at this
    exact this
  have ho : ∀ j, j + 1 < c.length → L + ceilD (doneS (atL c) (szL c) S (j + 1)) S ≤ L + ceilD (doneS (atL c) (szL c) S (j + 1 + 1)) S := fun j hj => by
    have h1 := okSteps_bd (okT_iff.1 hok).2 (j + 1) hj
    have := ceilD_mono (show 0 < S by omega) (done_mono (a := atL c) (s := szL c) (S := S) (k := j + 1) (by omega))
    omega
  have hz : ∀ j, j < c.length → (drainL c S L).getD j 0 = L + ceilD (doneS (atL c) (szL c) S (j + 1)) S := fun j hj => by
    unfold drainL drainK
    simp [List.getD, hj]
  obtain ⟨zs, hzs⟩ : ∃ zs, drainL c S L = zs := ⟨_, rfl⟩
  have hzl : zs.length = c.length := by rw [← hzs]; exact drainK_len _ _ _ _ _
  rw [hzs] at hz
  have hm2 : ∀ j, j < c.length → zs.getD j 0 ≤ atL c j + dl := fun j hj => by rw [hz j hj]; exact hm j hj
  have ho2 : ∀ j, j + 1 < c.length → zs.getD j 0 ≤ zs.getD (j + 1) 0 := fun j hj => by rw [hz j (by omega), hz (j + 1) hj]; exact ho j hj
  have H2 : Hid (drainR c S L = (zs, 0)) := Lib.hid (by unfold drainR; rw [hok, HSv.out, if_pos rfl, if_pos rfl, hzs])
  have HCC := Lib.hid hc
  have HM := Lib.hid hm2
  have HOR := Lib.hid ho2
  have HZL := Lib.hid hzl
  have HK := Lib.hid (okT_iff.1 hok)
  rw [hc] at hle
  clear hc hok ga gb hm ho hz hzs hm2 ho2 hzl Hok
  have hone : (Ro ≤ S ∧ ∃ one, delayR [(Bo, Ro)] S L = (one, 0) ∧ dl ≤ one) ∨ (S < Ro ∧ delayR [(Bo, Ro)] S L = (0, 141)) := by
    rcases Int.lt_or_le S Ro with h | h
    · exact Or.inr ⟨h, delay_no HBo.out HSv.out h⟩
    · refine Or.inl ⟨h, _, delay_one HBo.out HSv.out h, ?_⟩
      have := clear_one (X := X) (Y := Y) (Bo := Bo) h
      rw [hcl] at this
      omega
  clear hcl bcl
  rcases hone with ⟨hRS, one, hone, hdo⟩ | ⟨hRS, hone⟩
  · have H3 := Lib.hid hone
    clear hone
    go_enter Try.func9, Try.ntmps9
    go_wp2_with fail
    go_at_call 32
    refine (works4_yes _).mono ?_
    rintro _ w1 ⟨rfl, k1⟩
    have d0 := k1.some (by first | exact d0 | exact cell_alloc_old _ d0 | exact cell_alloc_old _ (cell_alloc_old _ d0) | exact cell_alloc_old _ (cell_alloc_old _ (cell_alloc_old _ d0)))
    have d1 := k1.some (by first | exact d1 | exact cell_alloc_old _ d1 | exact cell_alloc_old _ (cell_alloc_old _ d1) | exact cell_alloc_old _ (cell_alloc_old _ (cell_alloc_old _ d1)))
    have d2 := k1.some (by first | exact d2 | exact cell_alloc_old _ d2 | exact cell_alloc_old _ (cell_alloc_old _ d2) | exact cell_alloc_old _ (cell_alloc_old _ (cell_alloc_old _ d2)))
    have d3 := k1.some (by first | exact d3 | exact cell_alloc_old _ d3 | exact cell_alloc_old _ (cell_alloc_old _ d3) | exact cell_alloc_old _ (cell_alloc_old _ (cell_alloc_old _ d3)))
    have HD := Lib.hid (by first | exact HD.out.keep k1 | exact HD.out.keep ((Keep.alloc (Keep.refl _) _).trans k1) | exact HD.out.keep (((Keep.alloc (Keep.refl _) _).alloc _).trans k1) | exact HD.out.keep ((((Keep.alloc (Keep.refl _) _).alloc _).alloc _).trans k1))
    have KK := Lib.hid (by first | exact KK.out.trans k1 | exact (KK.out.alloc _).trans k1 | exact ((KK.out.alloc _).alloc _).trans k1 | exact (((KK.out.alloc _).alloc _).alloc _).trans k1)
    have hd0 := cellBlock d0
    go_wp2_with fail
    go_at_call 16
    refine (draftBucket_is _ B R gs ss _ HD X Y HX HY).mono ?_
    rintro _ w2 ⟨rfl, k2⟩
    have d0 := k2.some (by first | exact d0 | exact cell_alloc_old _ d0 | exact cell_alloc_old _ (cell_alloc_old _ d0) | exact cell_alloc_old _ (cell_alloc_old _ (cell_alloc_old _ d0)))
    have d1 := k2.some (by first | exact d1 | exact cell_alloc_old _ d1 | exact cell_alloc_old _ (cell_alloc_old _ d1) | exact cell_alloc_old _ (cell_alloc_old _ (cell_alloc_old _ d1)))
    have d2 := k2.some (by first | exact d2 | exact cell_alloc_old _ d2 | exact cell_alloc_old _ (cell_alloc_old _ d2) | exact cell_alloc_old _ (cell_alloc_old _ (cell_alloc_old _ d2)))
    have d3 := k2.some (by first | exact d3 | exact cell_alloc_old _ d3 | exact cell_alloc_old _ (cell_alloc_old _ d3) | exact cell_alloc_old _ (cell_alloc_old _ (cell_alloc_old _ d3)))
    have HD := Lib.hid (by first | exact HD.out.keep k2 | exact HD.out.keep ((Keep.alloc (Keep.refl _) _).trans k2) | exact HD.out.keep (((Keep.alloc (Keep.refl _) _).alloc _).trans k2) | exact HD.out.keep ((((Keep.alloc (Keep.refl _) _).alloc _).alloc _).trans k2))
    have KK := Lib.hid (by first | exact KK.out.trans k2 | exact (KK.out.alloc _).trans k2 | exact ((KK.out.alloc _).alloc _).trans k2 | exact (((KK.out.alloc _).alloc _).alloc _).trans k2)
    have hd0 := cellBlock d0
    try rw [hBo, hRo]
    have HD := Lib.hid (HD.out.keep (((Keep.alloc (Keep.refl _) (.cells #[.int .i64 X, .int .i64 Y] 30)).alloc (.cells #[.int .i64 Bo, .int .i64 Ro] 30)).alloc (.cells #[.int .i64 S, .int .i64 L] 54)))
    have d0 := cell_alloc_old (.cells #[.int .i64 S, .int .i64 L] 54) (cell_alloc_old (.cells #[.int .i64 Bo, .int .i64 Ro] 30) (cell_alloc_old (.cells #[.int .i64 X, .int .i64 Y] 30) d0))
    have d1 := cell_alloc_old (.cells #[.int .i64 S, .int .i64 L] 54) (cell_alloc_old (.cells #[.int .i64 Bo, .int .i64 Ro] 30) (cell_alloc_old (.cells #[.int .i64 X, .int .i64 Y] 30) d1))
    have d2 := cell_alloc_old (.cells #[.int .i64 S, .int .i64 L] 54) (cell_alloc_old (.cells #[.int .i64 Bo, .int .i64 Ro] 30) (cell_alloc_old (.cells #[.int .i64 X, .int .i64 Y] 30) d2))
    have d3 := cell_alloc_old (.cells #[.int .i64 S, .int .i64 L] 54) (cell_alloc_old (.cells #[.int .i64 Bo, .int .i64 Ro] 30) (cell_alloc_old (.cells #[.int .i64 X, .int .i64 Y] 30) d3))
    go_wp2_with fail
    go_at_call 43
    refine (conf2_is _ B R gs ss Bo Ro _ HD X Y HX HY l Hl HBo c HCC).mono ?_
    rintro _ w3 ⟨v3, rfl, hr, k3, -⟩
    have b0 : w3.cell? ⟨w2.heap.size, 0, none⟩ = some (.int .i64 X) := k3.some (by first | (simp [go_sem]; done) | exact cell_alloc_old _ (by simp [go_sem]) | exact cell_alloc_old _ (cell_alloc_old _ (by simp [go_sem])))
    have b1 : w3.cell? ⟨w2.heap.size, 1, none⟩ = some (.int .i64 Y) := k3.some (by first | (simp [go_sem]; done) | exact cell_alloc_old _ (by simp [go_sem]) | exact cell_alloc_old _ (cell_alloc_old _ (by simp [go_sem])))
    have o0 : w3.cell? ⟨w2.heap.size + 1, 0, none⟩ = some (.int .i64 Bo) := k3.some (by first | (simp [go_sem]; done) | exact cell_alloc_old _ (by simp [go_sem]) | exact cell_alloc_old _ (cell_alloc_old _ (by simp [go_sem])))
    have o1 : w3.cell? ⟨w2.heap.size + 1, 1, none⟩ = some (.int .i64 Ro) := k3.some (by first | (simp [go_sem]; done) | exact cell_alloc_old _ (by simp [go_sem]) | exact cell_alloc_old _ (cell_alloc_old _ (by simp [go_sem])))
    have s0 : w3.cell? ⟨w2.heap.size + 1 + 1, 0, none⟩ = some (.int .i64 S) := k3.some (by first | (simp [go_sem]; done) | exact cell_alloc_old _ (by simp [go_sem]) | exact cell_alloc_old _ (cell_alloc_old _ (by simp [go_sem])))
    have s1 : w3.cell? ⟨w2.heap.size + 1 + 1, 1, none⟩ = some (.int .i64 L) := k3.some (by first | (simp [go_sem]; done) | exact cell_alloc_old _ (by simp [go_sem]) | exact cell_alloc_old _ (cell_alloc_old _ (by simp [go_sem])))
    have KK := Lib.hid (by first | exact KK.out.trans k3 | exact (KK.out.alloc _).trans k3 | exact ((KK.out.alloc _).alloc _).trans k3 | exact (((KK.out.alloc _).alloc _).alloc _).trans k3)
    have hb0 := cellBlock b0
    have ho0 := cellBlock o0
    have hs0 := cellBlock s0
    obtain ⟨a3, c3, rfl, -⟩ := hr.form
    obtain ⟨n, hn⟩ : ∃ n, c.length = n := ⟨_, rfl⟩
    have HL := Lib.hid hn
    rw [hn] at hr hle ⊢
    have RW := Lib.hid hr
    clear hr hn HD d0 d1 d2 d3 hbu hra hmo
    go_wp2_with fail
    go_at_call 40
    refine (drain_slice a3 n c3 c S L _ _ RW H2).mono ?_
    rintro _ w4 ⟨v4, rfl, z4, k4⟩
    have b0 := k4.some (by first | exact b0 | exact cell_alloc_old _ b0 | exact cell_alloc_old _ (cell_alloc_old _ b0) | exact cell_alloc_old _ (cell_alloc_old _ (cell_alloc_old _ b0)))
    have b1 := k4.some (by first | exact b1 | exact cell_alloc_old _ b1 | exact cell_alloc_old _ (cell_alloc_old _ b1) | exact cell_alloc_old _ (cell_alloc_old _ (cell_alloc_old _ b1)))
    have o0 := k4.some (by first | exact o0 | exact cell_alloc_old _ o0 | exact cell_alloc_old _ (cell_alloc_old _ o0) | exact cell_alloc_old _ (cell_alloc_old _ (cell_alloc_old _ o0)))
    have o1 := k4.some (by first | exact o1 | exact cell_alloc_old _ o1 | exact cell_alloc_old _ (cell_alloc_old _ o1) | exact cell_alloc_old _ (cell_alloc_old _ (cell_alloc_old _ o1)))
    have s0 := k4.some (by first | exact s0 | exact cell_alloc_old _ s0 | exact cell_alloc_old _ (cell_alloc_old _ s0) | exact cell_alloc_old _ (cell_alloc_old _ (cell_alloc_old _ s0)))
    have s1 := k4.some (by first | exact s1 | exact cell_alloc_old _ s1 | exact cell_alloc_old _ (cell_alloc_old _ s1) | exact cell_alloc_old _ (cell_alloc_old _ (cell_alloc_old _ s1)))
    have RW := Lib.hid (by first | exact RW.out.keep k4 | exact RW.out.keep ((Keep.alloc (Keep.refl _) _).trans k4) | exact RW.out.keep (((Keep.alloc (Keep.refl _) _).alloc _).trans k4) | exact RW.out.keep ((((Keep.alloc (Keep.refl _) _).alloc _).alloc _).trans k4))
    have KK := Lib.hid (by first | exact KK.out.trans k4 | exact (KK.out.alloc _).trans k4 | exact ((KK.out.alloc _).alloc _).trans k4 | exact (((KK.out.alloc _).alloc _).alloc _).trans k4)
    have hb0 := cellBlock b0
    have ho0 := cellBlock o0
    have hs0 := cellBlock s0
    obtain ⟨a4, n4, c4, rfl, hl4, -, -⟩ := z4.form
    obtain rfl : n = n4 := by rw [← hl4, HZL.out, HL.out]
    have ZL := Lib.hid z4
    clear z4 hl4
    go_wp2_with fail
    go_at_call 33
    refine (delay_is _ 2 2 [(X, Y), (Bo, Ro)] S L dl 0 _ (Lib.hid (rowAll _ [(X, Y), (Bo, Ro)] _ _ _ 2 (by simp) rfl rfl (by simp))) H1).mono ?_
    rintro _ w5 ⟨rfl, k5⟩
    have b0 := k5.some (by first | exact b0 | exact cell_alloc_old _ b0 | exact cell_alloc_old _ (cell_alloc_old _ b0) | exact cell_alloc_old _ (cell_alloc_old _ (cell_alloc_old _ b0)))
    have b1 := k5.some (by first | exact b1 | exact cell_alloc_old _ b1 | exact cell_alloc_old _ (cell_alloc_old _ b1) | exact cell_alloc_old _ (cell_alloc_old _ (cell_alloc_old _ b1)))
    have o0 := k5.some (by first | exact o0 | exact cell_alloc_old _ o0 | exact cell_alloc_old _ (cell_alloc_old _ o0) | exact cell_alloc_old _ (cell_alloc_old _ (cell_alloc_old _ o0)))
    have o1 := k5.some (by first | exact o1 | exact cell_alloc_old _ o1 | exact cell_alloc_old _ (cell_alloc_old _ o1) | exact cell_alloc_old _ (cell_alloc_old _ (cell_alloc_old _ o1)))
    have s0 := k5.some (by first | exact s0 | exact cell_alloc_old _ s0 | exact cell_alloc_old _ (cell_alloc_old _ s0) | exact cell_alloc_old _ (cell_alloc_old _ (cell_alloc_old _ s0)))
    have s1 := k5.some (by first | exact s1 | exact cell_alloc_old _ s1 | exact cell_alloc_old _ (cell_alloc_old _ s1) | exact cell_alloc_old _ (cell_alloc_old _ (cell_alloc_old _ s1)))
    have RW := Lib.hid (by first | exact RW.out.keep k5 | exact RW.out.keep ((Keep.alloc (Keep.refl _) _).trans k5) | exact RW.out.keep (((Keep.alloc (Keep.refl _) _).alloc _).trans k5) | exact RW.out.keep ((((Keep.alloc (Keep.refl _) _).alloc _).alloc _).trans k5))
    have ZL := Lib.hid (by first | exact ZL.out.keep k5 | exact ZL.out.keep ((Keep.alloc (Keep.refl _) _).trans k5) | exact ZL.out.keep (((Keep.alloc (Keep.refl _) _).alloc _).trans k5) | exact ZL.out.keep ((((Keep.alloc (Keep.refl _) _).alloc _).alloc _).trans k5))
    have KK := Lib.hid (by first | exact KK.out.trans k5 | exact (KK.out.alloc _).trans k5 | exact ((KK.out.alloc _).alloc _).trans k5 | exact (((KK.out.alloc _).alloc _).alloc _).trans k5)
    have hb0 := cellBlock b0
    have ho0 := cellBlock o0
    have hs0 := cellBlock s0
    go_wp2_with fail
    go_at_call 33
    refine (delay_is _ 1 1 [(Bo, Ro)] S L one 0 _ (Lib.hid (rowAll _ [(Bo, Ro)] _ _ _ 1 (by simp) rfl rfl (by simp))) H3).mono ?_
    rintro _ w6 ⟨rfl, k6⟩
    have b0 := k6.some (by first | exact b0 | exact cell_alloc_old _ b0 | exact cell_alloc_old _ (cell_alloc_old _ b0) | exact cell_alloc_old _ (cell_alloc_old _ (cell_alloc_old _ b0)))
    have b1 := k6.some (by first | exact b1 | exact cell_alloc_old _ b1 | exact cell_alloc_old _ (cell_alloc_old _ b1) | exact cell_alloc_old _ (cell_alloc_old _ (cell_alloc_old _ b1)))
    have o0 := k6.some (by first | exact o0 | exact cell_alloc_old _ o0 | exact cell_alloc_old _ (cell_alloc_old _ o0) | exact cell_alloc_old _ (cell_alloc_old _ (cell_alloc_old _ o0)))
    have o1 := k6.some (by first | exact o1 | exact cell_alloc_old _ o1 | exact cell_alloc_old _ (cell_alloc_old _ o1) | exact cell_alloc_old _ (cell_alloc_old _ (cell_alloc_old _ o1)))
    have s0 := k6.some (by first | exact s0 | exact cell_alloc_old _ s0 | exact cell_alloc_old _ (cell_alloc_old _ s0) | exact cell_alloc_old _ (cell_alloc_old _ (cell_alloc_old _ s0)))
    have s1 := k6.some (by first | exact s1 | exact cell_alloc_old _ s1 | exact cell_alloc_old _ (cell_alloc_old _ s1) | exact cell_alloc_old _ (cell_alloc_old _ (cell_alloc_old _ s1)))
    have RW := Lib.hid (by first | exact RW.out.keep k6 | exact RW.out.keep ((Keep.alloc (Keep.refl _) _).trans k6) | exact RW.out.keep (((Keep.alloc (Keep.refl _) _).alloc _).trans k6) | exact RW.out.keep ((((Keep.alloc (Keep.refl _) _).alloc _).alloc _).trans k6))
    have ZL := Lib.hid (by first | exact ZL.out.keep k6 | exact ZL.out.keep ((Keep.alloc (Keep.refl _) _).trans k6) | exact ZL.out.keep (((Keep.alloc (Keep.refl _) _).alloc _).trans k6) | exact ZL.out.keep ((((Keep.alloc (Keep.refl _) _).alloc _).alloc _).trans k6))
    have KK := Lib.hid (by first | exact KK.out.trans k6 | exact (KK.out.alloc _).trans k6 | exact ((KK.out.alloc _).alloc _).trans k6 | exact (((KK.out.alloc _).alloc _).alloc _).trans k6)
    have hb0 := cellBlock b0
    have ho0 := cellBlock o0
    have hs0 := cellBlock s0
    have eN : ((n : Int) != (n : Int)) = false := by simp
    have hgt : ¬ one < dl := by omega
    go_wp2
    have HRF := Lib.hid RW.out.form
    obtain ⟨a4', n4', c4', e4, hl4, -, hz4⟩ := ZL.out.form
    cases e4
    have HZF := Lib.hid hz4
    have HFC : Hid (∀ j, j < n → ∃ b off, a3 = some ⟨b, off, none⟩ ∧ w6.cell? ⟨b, off + j * 2, none⟩ = some (.int .i64 (atL c j))) := Lib.hid fun j hj => by
      obtain ⟨a, cap, e, h⟩ := HRF.out
      cases e
      obtain ⟨b, off, e1, h1, -⟩ := h j (by rw [HL.out]; exact hj)
      exact ⟨b, off, e1, h1⟩
    clear hz4 hl4 HRF RW ZL b0 b1 o0 o1 s0 s1 hb0 ho0 hs0 H1 H2 H3
    go_loopw [21] (fun s21 wr => ∃ i : Nat, i ≤ n ∧ s21 = .int .i64 (i : Int) ∧ Hid (Keep w6 wr)) (fun i _ => n - (intOf i).toNat)
    case atStart => exact ⟨0, by omega, rfl, Lib.hid (Keep.refl _)⟩
    case round =>
      obtain ⟨i, hi, rfl, HR⟩ := hrel
      by_cases hlt : i < n
      · have hlt' : (i : Int) < (n : Int) := by omega
        obtain ⟨b, off, rfl, ca⟩ := HFC.out i hlt
        obtain ⟨bz, oz, rfl, cz⟩ := HZF.out i hlt
        have HZF2 : Hid (∀ j, j < n → w6.cell? ⟨bz, oz + j, none⟩ = some (.int .i64 (zs.getD j 0))) := Lib.hid fun j hj => by
          obtain ⟨b', o', e, h⟩ := HZF.out j hj
          cases e
          exact h
        have ca := HR.out.some ca
        have cz := HR.out.some cz
        have hm := HM.out i (by rw [HL.out]; exact hlt)
        have ba := okSteps_bd HK.out.2 i (by rw [HL.out]; exact hlt)
        obtain ⟨ai, hai⟩ : ∃ x, atL c i = x := ⟨_, rfl⟩
        obtain ⟨oi, hoi⟩ : ∃ x, zs.getD i 0 = x := ⟨_, rfl⟩
        rw [hai] at ca hm ba
        rw [hoi] at cz hm
        have HOI := Lib.hid hoi
        have hgt2 : ¬ ai + dl < oi := by omega
        have hcb := cellBlock ca
        have hzb := cellBlock cz
        clear hai hoi hm
        rcases Nat.eq_zero_or_pos i with hi0 | hip
        · have hip' : ¬ (0 : Int) < (i : Int) := by omega
          clear hi0
          go_upto_region 14 with fail
          refine region_lin (W0 := wr) (listF [fun v ww => v = .slice (some ⟨bz, oz, none⟩) n c4, fun v ww => v = .int .i64 ((i : Int)), fun v ww => v = .pointer (some ⟨bz, oz + i, none⟩), fun v ww => v = .int .i64 oi, fun v ww => v = .slice (some ⟨b, off, none⟩) n c3, fun v ww => v = .int .i64 ((i : Int)), fun v ww => v = .pointer (some ⟨b, off + i * 2, none⟩), fun v ww => v = .pointer (some ⟨b, off + i * 2, none⟩), fun v ww => v = .int .i64 ai, fun v ww => v = .int .i64 dl, fun v ww => v = .int .i64 (ai + dl), fun v ww => v = .bool false, fun v ww => v = .bool false, fun v ww => v = .int .i64 ((i : Int)), fun v ww => v = .bool false, fun v ww => v = .bool false, fun v ww => v = undef, fun v ww => v = undef, fun v ww => v = undef, fun v ww => v = undef, fun v ww => v = undef, fun v ww => v = undef, fun v ww => v = undef, fun v ww => v = undef, fun v ww => v = undef, fun v ww => v = undef, fun v ww => v = .bool false, fun v ww => v = .bool false]) (listF_stable _ ⟨fun _ _ _ _ h => h, fun _ _ _ _ h => h, fun _ _ _ _ h => h, fun _ _ _ _ h => h, fun _ _ _ _ h => h, fun _ _ _ _ h => h, fun _ _ _ _ h => h, fun _ _ _ _ h => h, fun _ _ _ _ h => h, fun _ _ _ _ h => h, fun _ _ _ _ h => h, fun _ _ _ _ h => h, fun _ _ _ _ h => h, fun _ _ _ _ h => h, fun _ _ _ _ h => h, fun _ _ _ _ h => h, fun _ _ _ _ h => h, fun _ _ _ _ h => h, fun _ _ _ _ h => h, fun _ _ _ _ h => h, fun _ _ _ _ h => h, fun _ _ _ _ h => h, fun _ _ _ _ h => h, fun _ _ _ _ h => h, fun _ _ _ _ h => h, fun _ _ _ _ h => h, fun _ _ _ _ h => h, fun _ _ _ _ h => h, trivial⟩) (by kernel_rfl) (by kernel_rfl) (by kernel_rfl) (by kernel_rfl) (Keep.refl _) ?donez ?stepsz
          case donez =>
            intro Tz wzz hJ
            obtain ⟨x0, t0, f0⟩ := hJ.fact 0 106 (by decide) (by kernel_rfl)
            obtain rfl : x0 = .slice (some ⟨bz, oz, none⟩) n c4 := f0
            obtain ⟨x1, t1, f1⟩ := hJ.fact 1 107 (by decide) (by kernel_rfl)
            obtain rfl : x1 = .int .i64 ((i : Int)) := f1
            obtain ⟨x2, t2, f2⟩ := hJ.fact 2 108 (by decide) (by kernel_rfl)
            obtain rfl : x2 = .pointer (some ⟨bz, oz + i, none⟩) := f2
            obtain ⟨x3, t3, f3⟩ := hJ.fact 3 109 (by decide) (by kernel_rfl)
            obtain rfl : x3 = .int .i64 oi := f3
            obtain ⟨x4, t4, f4⟩ := hJ.fact 4 110 (by decide) (by kernel_rfl)
            obtain rfl : x4 = .slice (some ⟨b, off, none⟩) n c3 := f4
            obtain ⟨x5, t5, f5⟩ := hJ.fact 5 111 (by decide) (by kernel_rfl)
            obtain rfl : x5 = .int .i64 ((i : Int)) := f5
            obtain ⟨x6, t6, f6⟩ := hJ.fact 6 112 (by decide) (by kernel_rfl)
            obtain rfl : x6 = .pointer (some ⟨b, off + i * 2, none⟩) := f6
            obtain ⟨x7, t7, f7⟩ := hJ.fact 7 113 (by decide) (by kernel_rfl)
            obtain rfl : x7 = .pointer (some ⟨b, off + i * 2, none⟩) := f7
            obtain ⟨x8, t8, f8⟩ := hJ.fact 8 114 (by decide) (by kernel_rfl)
            obtain rfl : x8 = .int .i64 ai := f8
            obtain ⟨x9, t9, f9⟩ := hJ.fact 9 115 (by decide) (by kernel_rfl)
            obtain rfl : x9 = .int .i64 dl := f9
            obtain ⟨x10, t10, f10⟩ := hJ.fact 10 116 (by decide) (by kernel_rfl)
            obtain rfl : x10 = .int .i64 (ai + dl) := f10
            obtain ⟨x11, t11, f11⟩ := hJ.fact 11 117 (by decide) (by kernel_rfl)
            obtain rfl : x11 = .bool false := f11
            obtain ⟨x12, t12, f12⟩ := hJ.fact 12 118 (by decide) (by kernel_rfl)
            obtain rfl : x12 = .bool false := f12
            obtain ⟨x13, t13, f13⟩ := hJ.fact 13 119 (by decide) (by kernel_rfl)
            obtain rfl : x13 = .int .i64 ((i : Int)) := f13
            obtain ⟨x14, t14, f14⟩ := hJ.fact 14 120 (by decide) (by kernel_rfl)
            obtain rfl : x14 = .bool false := f14
            obtain ⟨x15, t15, f15⟩ := hJ.fact 15 121 (by decide) (by kernel_rfl)
            obtain rfl : x15 = .bool false := f15
            obtain ⟨x16, t16, f16⟩ := hJ.fact 16 122 (by decide) (by kernel_rfl)
            obtain rfl : undef = x16 := f16.symm
            obtain ⟨x17, t17, f17⟩ := hJ.fact 17 123 (by decide) (by kernel_rfl)
            obtain rfl : undef = x17 := f17.symm
            obtain ⟨x18, t18, f18⟩ := hJ.fact 18 124 (by decide) (by kernel_rfl)
            obtain rfl : undef = x18 := f18.symm
            obtain ⟨x19, t19, f19⟩ := hJ.fact 19 125 (by decide) (by kernel_rfl)
            obtain rfl : undef = x19 := f19.symm
            obtain ⟨x20, t20, f20⟩ := hJ.fact 20 126 (by decide) (by kernel_rfl)
            obtain rfl : undef = x20 := f20.symm
            obtain ⟨x21, t21, f21⟩ := hJ.fact 21 127 (by decide) (by kernel_rfl)
            obtain rfl : undef = x21 := f21.symm
            obtain ⟨x22, t22, f22⟩ := hJ.fact 22 128 (by decide) (by kernel_rfl)
            obtain rfl : undef = x22 := f22.symm
            obtain ⟨x23, t23, f23⟩ := hJ.fact 23 129 (by decide) (by kernel_rfl)
            obtain rfl : undef = x23 := f23.symm
            obtain ⟨x24, t24, f24⟩ := hJ.fact 24 130 (by decide) (by kernel_rfl)
            obtain rfl : undef = x24 := f24.symm
            obtain ⟨x25, t25, f25⟩ := hJ.fact 25 131 (by decide) (by kernel_rfl)
            obtain rfl : undef = x25 := f25.symm
            obtain ⟨x26, t26, f26⟩ := hJ.fact 26 132 (by decide) (by kernel_rfl)
            obtain rfl : x26 = .bool false := f26
            obtain ⟨x27, t27, f27⟩ := hJ.fact 27 133 (by decide) (by kernel_rfl)
            obtain rfl : x27 = .bool false := f27
            have hfr := hJ.frame [(106, .slice (some ⟨bz, oz, none⟩) n c4), (107, .int .i64 ((i : Int))), (108, .pointer (some ⟨bz, oz + i, none⟩)), (109, .int .i64 oi), (110, .slice (some ⟨b, off, none⟩) n c3), (111, .int .i64 ((i : Int))), (112, .pointer (some ⟨b, off + i * 2, none⟩)), (113, .pointer (some ⟨b, off + i * 2, none⟩)), (114, .int .i64 ai), (115, .int .i64 dl), (116, .int .i64 (ai + dl)), (117, .bool false), (118, .bool false), (119, .int .i64 ((i : Int))), (120, .bool false), (121, .bool false), (122, undef), (123, undef), (124, undef), (125, undef), (126, undef), (127, undef), (128, undef), (129, undef), (130, undef), (131, undef), (132, .bool false), (133, .bool false)] (by simp [t0, t1, t2, t3, t4, t5, t6, t7, t8, t9, t10, t11, t12, t13, t14, t15, t16, t17, t18, t19, t20, t21, t22, t23, t24, t25, t26, t27]) (by kernel_rfl)
            have G := hJ.keep
            clear hJ t0 t1 t2 t3 t4 t5 t6 t7 t8 t9 t10 t11 t12 t13 t14 t15 t16 t17 t18 t19 t20 t21 t22 t23 t24 t25 t26 t27
            rw [hfr]
            clear hfr Tz
            simp only [List.foldl_cons, List.foldl_nil, List.setIfInBounds_toArray, List.set_cons_zero, List.set_cons_succ]
            have HR := Lib.hid (HR.out.trans G)
            clear G
            go_wp2
            go_roundw
            case rel => exact ⟨i + 1, by omega, by go_num, HR⟩
            case measure => simp [intOf]; omega
          case stepsz =>
            refine LinSteps.cons (k := 0) ?_ (LinSteps.cons (k := 1) ?_ (LinSteps.cons (k := 2) ?_ (LinSteps.cons (k := 3) ?_ (LinSteps.cons (k := 4) ?_ (LinSteps.cons (k := 5) ?_ (LinSteps.cons (k := 6) ?_ (LinSteps.cons (k := 7) ?_ (LinSteps.cons (k := 8) ?_ (LinSteps.cons (k := 9) ?_ (LinSteps.cons (k := 10) ?_ (LinSteps.cons (k := 11) ?_ (LinSteps.cons (k := 12) ?_ (LinSteps.cons (k := 13) ?_ (LinSteps.cons (k := 14) ?_ (LinSteps.cons (k := 15) ?_ (LinSteps.cons (k := 16) ?_ (LinSteps.cons (k := 17) ?_ (LinSteps.cons (k := 18) ?_ (LinSteps.cons (k := 19) ?_ (LinSteps.cons (k := 20) ?_ (LinSteps.cons (k := 21) ?_ (LinSteps.cons (k := 22) ?_ (LinSteps.cons (k := 23) ?_ (LinSteps.cons (k := 24) ?_ (LinSteps.cons (k := 25) ?_ (LinSteps.cons (k := 26) ?_ (LinSteps.cons (k := 27) ?_ (LinSteps.nil))))))))))))))))))))))))))))
            · -- 0
              refine LinStep.plain rfl ?_
              intro QQ bb T ww hn hJ hd K HK
              have s15 := (hJ.oldSlot 15 (by kernel_rfl))
              simp only [List.getElem?_toArray, List.getElem?_cons_zero, List.getElem?_cons_succ] at s15
              have G := hJ.keep
              clear hJ hd hn
              go_simp
              exact HK.out _ _ (Keep.refl _) rfl
            · -- 1
              refine LinStep.plain rfl ?_
              intro QQ bb T ww hn hJ hd K HK
              have s21 := (hJ.oldSlot 21 (by kernel_rfl))
              simp only [List.getElem?_toArray, List.getElem?_cons_zero, List.getElem?_cons_succ] at s21
              have G := hJ.keep
              clear hJ hd hn
              go_simp
              exact HK.out _ _ (Keep.refl _) rfl
            · -- 2
              refine LinStep.plain rfl ?_
              intro QQ bb T ww hn hJ hd K HK
              obtain ⟨x0, t0, f0⟩ := hJ.dep hd 0 106 (by kernel_rfl) (by kernel_rfl)
              obtain rfl : x0 = .slice (some ⟨bz, oz, none⟩) n c4 := f0
              obtain ⟨x1, t1, f1⟩ := hJ.dep hd 1 107 (by kernel_rfl) (by kernel_rfl)
              obtain rfl : x1 = .int .i64 ((i : Int)) := f1
              have G := hJ.keep
              clear hJ hd hn
              go_wp2
              exact HK.out _ _ (Keep.refl _) rfl
            · -- 3
              refine LinStep.plain rfl ?_
              intro QQ bb T ww hn hJ hd K HK
              obtain ⟨x2, t2, f2⟩ := hJ.dep hd 2 108 (by kernel_rfl) (by kernel_rfl)
              obtain rfl : x2 = .pointer (some ⟨bz, oz + i, none⟩) := f2
              have G := hJ.keep
              clear hJ hd hn
              have k0 := G.some cz
              go_simp
              exact HK.out _ _ (Keep.refl _) rfl
            · -- 4
              refine LinStep.plain rfl ?_
              intro QQ bb T ww hn hJ hd K HK
              have s14 := (hJ.oldSlot 14 (by kernel_rfl))
              simp only [List.getElem?_toArray, List.getElem?_cons_zero, List.getElem?_cons_succ] at s14
              have G := hJ.keep
              clear hJ hd hn
              go_simp
              exact HK.out _ _ (Keep.refl _) rfl
            · -- 5
              refine LinStep.plain rfl ?_
              intro QQ bb T ww hn hJ hd K HK
              have s21 := (hJ.oldSlot 21 (by kernel_rfl))
              simp only [List.getElem?_toArray, List.getElem?_cons_zero, List.getElem?_cons_succ] at s21
              have G := hJ.keep
              clear hJ hd hn
              go_simp
              exact HK.out _ _ (Keep.refl _) rfl
            · -- 6
              refine LinStep.plain rfl ?_
              intro QQ bb T ww hn hJ hd K HK
              obtain ⟨x4, t4, f4⟩ := hJ.dep hd 4 110 (by kernel_rfl) (by kernel_rfl)
              obtain rfl : x4 = .slice (some ⟨b, off, none⟩) n c3 := f4
              obtain ⟨x5, t5, f5⟩ := hJ.dep hd 5 111 (by kernel_rfl) (by kernel_rfl)
              obtain rfl : x5 = .int .i64 ((i : Int)) := f5
              have G := hJ.keep
              clear hJ hd hn
              go_wp2
              exact HK.out _ _ (Keep.refl _) rfl
            · -- 7
              refine LinStep.plain rfl ?_
              intro QQ bb T ww hn hJ hd K HK
              obtain ⟨x6, t6, f6⟩ := hJ.dep hd 6 112 (by kernel_rfl) (by kernel_rfl)
              obtain rfl : x6 = .pointer (some ⟨b, off + i * 2, none⟩) := f6
              have G := hJ.keep
              clear hJ hd hn
              go_simp
              exact HK.out _ _ (Keep.refl _) rfl
            · -- 8
              refine LinStep.plain rfl ?_
              intro QQ bb T ww hn hJ hd K HK
              obtain ⟨x7, t7, f7⟩ := hJ.dep hd 7 113 (by kernel_rfl) (by kernel_rfl)
              obtain rfl : x7 = .pointer (some ⟨b, off + i * 2, none⟩) := f7
              have G := hJ.keep
              clear hJ hd hn
              have k0 := G.some ca
              go_simp
              exact HK.out _ _ (Keep.refl _) rfl
            · -- 9
              refine LinStep.plain rfl ?_
              intro QQ bb T ww hn hJ hd K HK
              have s17 := (hJ.oldSlot 17 (by kernel_rfl))
              simp only [List.getElem?_toArray, List.getElem?_cons_zero, List.getElem?_cons_succ] at s17
              have G := hJ.keep
              clear hJ hd hn
              go_simp
              exact HK.out _ _ (Keep.refl _) rfl
            · -- 10
              refine LinStep.plain rfl ?_
              intro QQ bb T ww hn hJ hd K HK
              obtain ⟨x8, t8, f8⟩ := hJ.dep hd 8 114 (by kernel_rfl) (by kernel_rfl)
              obtain rfl : x8 = .int .i64 ai := f8
              obtain ⟨x9, t9, f9⟩ := hJ.dep hd 9 115 (by kernel_rfl) (by kernel_rfl)
              obtain rfl : x9 = .int .i64 dl := f9
              have G := hJ.keep
              clear hJ hd hn
              have e1 : IntKind.i64.wrap (ai + dl) = ai + dl := IntWalk.i64_in _ (by omega)
              go_simp
              exact HK.out _ _ (Keep.refl _) rfl
            · -- 11
              refine LinStep.plain rfl ?_
              intro QQ bb T ww hn hJ hd K HK
              obtain ⟨x3, t3, f3⟩ := hJ.dep hd 3 109 (by kernel_rfl) (by kernel_rfl)
              obtain rfl : x3 = .int .i64 oi := f3
              obtain ⟨x10, t10, f10⟩ := hJ.dep hd 10 116 (by kernel_rfl) (by kernel_rfl)
              obtain rfl : x10 = .int .i64 (ai + dl) := f10
              have G := hJ.keep
              clear hJ hd hn
              go_simp
              exact HK.out _ _ (Keep.refl _) rfl
            · -- 12
              refine LinStep.plain rfl ?_
              intro QQ bb T ww hn hJ hd K HK
              obtain ⟨x11, t11, f11⟩ := hJ.dep hd 11 117 (by kernel_rfl) (by kernel_rfl)
              obtain rfl : x11 = .bool false := f11
              have G := hJ.keep
              clear hJ hd hn
              go_simp
              exact HK.out _ _ (Keep.refl _) rfl
            · -- 13
              refine LinStep.guarded 12 118 false rfl (by kernel_rfl) (by kernel_rfl) (fun _ _ h => h) ?_
              intro QQ bb T ww hn hJ hd K HK
              have s21 := (hJ.oldSlot 21 (by kernel_rfl))
              simp only [List.getElem?_toArray, List.getElem?_cons_zero, List.getElem?_cons_succ] at s21
              have G := hJ.keep
              clear hJ hd hn
              go_simp
              exact HK.out _ _ (Keep.refl _) rfl
            · -- 14
              refine LinStep.guarded 12 118 false rfl (by kernel_rfl) (by kernel_rfl) (fun _ _ h => h) ?_
              intro QQ bb T ww hn hJ hd K HK
              obtain ⟨x13, t13, f13⟩ := hJ.dep hd 13 119 (by kernel_rfl) (by kernel_rfl)
              obtain rfl : x13 = .int .i64 ((i : Int)) := f13
              have G := hJ.keep
              clear hJ hd hn
              go_simp
              exact HK.out _ _ (Keep.refl _) (congrArg Value.bool (decide_eq_false (by omega)))
            · -- 15
              refine LinStep.guarded 12 118 false rfl (by kernel_rfl) (by kernel_rfl) (fun _ _ h => h) ?_
              intro QQ bb T ww hn hJ hd K HK
              obtain ⟨x14, t14, f14⟩ := hJ.dep hd 14 120 (by kernel_rfl) (by kernel_rfl)
              obtain rfl : x14 = .bool false := f14
              have G := hJ.keep
              clear hJ hd hn
              go_simp
              exact HK.out _ _ (Keep.refl _) rfl
            · -- 16
              exact LinStep.skipped 15 121 true rfl (by kernel_rfl) (by kernel_rfl) (fun _ _ h => h) (fun _ => rfl)
            · -- 17
              exact LinStep.skipped 15 121 true rfl (by kernel_rfl) (by kernel_rfl) (fun _ _ h => h) (fun _ => rfl)
            · -- 18
              exact LinStep.skipped 15 121 true rfl (by kernel_rfl) (by kernel_rfl) (fun _ _ h => h) (fun _ => rfl)
            · -- 19
              exact LinStep.skipped 15 121 true rfl (by kernel_rfl) (by kernel_rfl) (fun _ _ h => h) (fun _ => rfl)
            · -- 20
              exact LinStep.skipped 15 121 true rfl (by kernel_rfl) (by kernel_rfl) (fun _ _ h => h) (fun _ => rfl)
            · -- 21
              exact LinStep.skipped 15 121 true rfl (by kernel_rfl) (by kernel_rfl) (fun _ _ h => h) (fun _ => rfl)
            · -- 22
              exact LinStep.skipped 15 121 true rfl (by kernel_rfl) (by kernel_rfl) (fun _ _ h => h) (fun _ => rfl)
            · -- 23
              exact LinStep.skipped 15 121 true rfl (by kernel_rfl) (by kernel_rfl) (fun _ _ h => h) (fun _ => rfl)
            · -- 24
              exact LinStep.skipped 15 121 true rfl (by kernel_rfl) (by kernel_rfl) (fun _ _ h => h) (fun _ => rfl)
            · -- 25
              exact LinStep.skipped 15 121 true rfl (by kernel_rfl) (by kernel_rfl) (fun _ _ h => h) (fun _ => rfl)
            · -- 26
              refine LinStep.guarded 12 118 false rfl (by kernel_rfl) (by kernel_rfl) (fun _ _ h => h) ?_
              intro QQ bb T ww hn hJ hd K HK
              obtain ⟨x15, t15, f15⟩ := hJ.dep hd 15 121 (by kernel_rfl) (by kernel_rfl)
              obtain rfl : x15 = .bool false := f15
              obtain ⟨x25, t25, f25⟩ := hJ.dep hd 25 131 (by kernel_rfl) (by kernel_rfl)
              obtain rfl : undef = x25 := f25.symm
              have G := hJ.keep
              clear hJ hd hn
              go_simp
              exact HK.out _ _ (Keep.refl _) rfl
            · -- 27
              refine LinStep.plain rfl ?_
              intro QQ bb T ww hn hJ hd K HK
              obtain ⟨x12, t12, f12⟩ := hJ.dep hd 12 118 (by kernel_rfl) (by kernel_rfl)
              obtain rfl : x12 = .bool false := f12
              obtain ⟨x26, t26, f26⟩ := hJ.dep hd 26 132 (by kernel_rfl) (by kernel_rfl)
              obtain rfl : x26 = .bool false := f26
              have G := hJ.keep
              clear hJ hd hn
              go_simp
              exact HK.out _ _ (Keep.refl _) rfl
        · have hip' : (0 : Int) < (i : Int) := by omega
          obtain ⟨p, hp⟩ : ∃ p, i - 1 = p := ⟨_, rfl⟩
          have hpi : (i : Int) - 1 = (p : Int) := by omega
          have hpn : (p : Int) < (n : Int) := by omega
          have cp := HR.out.some (HZF2.out p (by omega))
          have hor := HOR.out p (by rw [HL.out]; omega)
          rw [show p + 1 = i by omega, HOI.out] at hor
          obtain ⟨op, hop⟩ : ∃ x, zs.getD p 0 = x := ⟨_, rfl⟩
          rw [hop] at cp hor
          have hlt3 : ¬ oi < op := by omega
          clear hop hp
          go_upto_region 14 with fail
          refine region_lin (W0 := wr) (listF [fun v ww => v = .slice (some ⟨bz, oz, none⟩) n c4, fun v ww => v = .int .i64 ((i : Int)), fun v ww => v = .pointer (some ⟨bz, oz + i, none⟩), fun v ww => v = .int .i64 oi, fun v ww => v = .slice (some ⟨b, off, none⟩) n c3, fun v ww => v = .int .i64 ((i : Int)), fun v ww => v = .pointer (some ⟨b, off + i * 2, none⟩), fun v ww => v = .pointer (some ⟨b, off + i * 2, none⟩), fun v ww => v = .int .i64 ai, fun v ww => v = .int .i64 dl, fun v ww => v = .int .i64 (ai + dl), fun v ww => v = .bool false, fun v ww => v = .bool false, fun v ww => v = .int .i64 ((i : Int)), fun v ww => v = .bool true, fun v ww => v = .bool true, fun v ww => v = .slice (some ⟨bz, oz, none⟩) n c4, fun v ww => v = .int .i64 ((i : Int)), fun v ww => v = .pointer (some ⟨bz, oz + i, none⟩), fun v ww => v = .int .i64 oi, fun v ww => v = .slice (some ⟨bz, oz, none⟩) n c4, fun v ww => v = .int .i64 ((i : Int)), fun v ww => v = .int .i64 ((p : Int)), fun v ww => v = .pointer (some ⟨bz, oz + p, none⟩), fun v ww => v = .int .i64 op, fun v ww => v = .bool false, fun v ww => v = .bool false, fun v ww => v = .bool false]) (listF_stable _ ⟨fun _ _ _ _ h => h, fun _ _ _ _ h => h, fun _ _ _ _ h => h, fun _ _ _ _ h => h, fun _ _ _ _ h => h, fun _ _ _ _ h => h, fun _ _ _ _ h => h, fun _ _ _ _ h => h, fun _ _ _ _ h => h, fun _ _ _ _ h => h, fun _ _ _ _ h => h, fun _ _ _ _ h => h, fun _ _ _ _ h => h, fun _ _ _ _ h => h, fun _ _ _ _ h => h, fun _ _ _ _ h => h, fun _ _ _ _ h => h, fun _ _ _ _ h => h, fun _ _ _ _ h => h, fun _ _ _ _ h => h, fun _ _ _ _ h => h, fun _ _ _ _ h => h, fun _ _ _ _ h => h, fun _ _ _ _ h => h, fun _ _ _ _ h => h, fun _ _ _ _ h => h, fun _ _ _ _ h => h, fun _ _ _ _ h => h, trivial⟩) (by kernel_rfl) (by kernel_rfl) (by kernel_rfl) (by kernel_rfl) (Keep.refl _) ?donep ?stepsp
          case donep =>
            intro Tp wzp hJ
            obtain ⟨x0, t0, f0⟩ := hJ.fact 0 106 (by decide) (by kernel_rfl)
            obtain rfl : x0 = .slice (some ⟨bz, oz, none⟩) n c4 := f0
            obtain ⟨x1, t1, f1⟩ := hJ.fact 1 107 (by decide) (by kernel_rfl)
            obtain rfl : x1 = .int .i64 ((i : Int)) := f1
            obtain ⟨x2, t2, f2⟩ := hJ.fact 2 108 (by decide) (by kernel_rfl)
            obtain rfl : x2 = .pointer (some ⟨bz, oz + i, none⟩) := f2
            obtain ⟨x3, t3, f3⟩ := hJ.fact 3 109 (by decide) (by kernel_rfl)
            obtain rfl : x3 = .int .i64 oi := f3
            obtain ⟨x4, t4, f4⟩ := hJ.fact 4 110 (by decide) (by kernel_rfl)
            obtain rfl : x4 = .slice (some ⟨b, off, none⟩) n c3 := f4
            obtain ⟨x5, t5, f5⟩ := hJ.fact 5 111 (by decide) (by kernel_rfl)
            obtain rfl : x5 = .int .i64 ((i : Int)) := f5
            obtain ⟨x6, t6, f6⟩ := hJ.fact 6 112 (by decide) (by kernel_rfl)
            obtain rfl : x6 = .pointer (some ⟨b, off + i * 2, none⟩) := f6
            obtain ⟨x7, t7, f7⟩ := hJ.fact 7 113 (by decide) (by kernel_rfl)
            obtain rfl : x7 = .pointer (some ⟨b, off + i * 2, none⟩) := f7
            obtain ⟨x8, t8, f8⟩ := hJ.fact 8 114 (by decide) (by kernel_rfl)
            obtain rfl : x8 = .int .i64 ai := f8
            obtain ⟨x9, t9, f9⟩ := hJ.fact 9 115 (by decide) (by kernel_rfl)
            obtain rfl : x9 = .int .i64 dl := f9
            obtain ⟨x10, t10, f10⟩ := hJ.fact 10 116 (by decide) (by kernel_rfl)
            obtain rfl : x10 = .int .i64 (ai + dl) := f10
            obtain ⟨x11, t11, f11⟩ := hJ.fact 11 117 (by decide) (by kernel_rfl)
            obtain rfl : x11 = .bool false := f11
            obtain ⟨x12, t12, f12⟩ := hJ.fact 12 118 (by decide) (by kernel_rfl)
            obtain rfl : x12 = .bool false := f12
            obtain ⟨x13, t13, f13⟩ := hJ.fact 13 119 (by decide) (by kernel_rfl)
            obtain rfl : x13 = .int .i64 ((i : Int)) := f13
            obtain ⟨x14, t14, f14⟩ := hJ.fact 14 120 (by decide) (by kernel_rfl)
            obtain rfl : x14 = .bool true := f14
            obtain ⟨x15, t15, f15⟩ := hJ.fact 15 121 (by decide) (by kernel_rfl)
            obtain rfl : x15 = .bool true := f15
            obtain ⟨x16, t16, f16⟩ := hJ.fact 16 122 (by decide) (by kernel_rfl)
            obtain rfl : x16 = .slice (some ⟨bz, oz, none⟩) n c4 := f16
            obtain ⟨x17, t17, f17⟩ := hJ.fact 17 123 (by decide) (by kernel_rfl)
            obtain rfl : x17 = .int .i64 ((i : Int)) := f17
            obtain ⟨x18, t18, f18⟩ := hJ.fact 18 124 (by decide) (by kernel_rfl)
            obtain rfl : x18 = .pointer (some ⟨bz, oz + i, none⟩) := f18
            obtain ⟨x19, t19, f19⟩ := hJ.fact 19 125 (by decide) (by kernel_rfl)
            obtain rfl : x19 = .int .i64 oi := f19
            obtain ⟨x20, t20, f20⟩ := hJ.fact 20 126 (by decide) (by kernel_rfl)
            obtain rfl : x20 = .slice (some ⟨bz, oz, none⟩) n c4 := f20
            obtain ⟨x21, t21, f21⟩ := hJ.fact 21 127 (by decide) (by kernel_rfl)
            obtain rfl : x21 = .int .i64 ((i : Int)) := f21
            obtain ⟨x22, t22, f22⟩ := hJ.fact 22 128 (by decide) (by kernel_rfl)
            obtain rfl : x22 = .int .i64 ((p : Int)) := f22
            obtain ⟨x23, t23, f23⟩ := hJ.fact 23 129 (by decide) (by kernel_rfl)
            obtain rfl : x23 = .pointer (some ⟨bz, oz + p, none⟩) := f23
            obtain ⟨x24, t24, f24⟩ := hJ.fact 24 130 (by decide) (by kernel_rfl)
            obtain rfl : x24 = .int .i64 op := f24
            obtain ⟨x25, t25, f25⟩ := hJ.fact 25 131 (by decide) (by kernel_rfl)
            obtain rfl : x25 = .bool false := f25
            obtain ⟨x26, t26, f26⟩ := hJ.fact 26 132 (by decide) (by kernel_rfl)
            obtain rfl : x26 = .bool false := f26
            obtain ⟨x27, t27, f27⟩ := hJ.fact 27 133 (by decide) (by kernel_rfl)
            obtain rfl : x27 = .bool false := f27
            have hfr := hJ.frame [(106, .slice (some ⟨bz, oz, none⟩) n c4), (107, .int .i64 ((i : Int))), (108, .pointer (some ⟨bz, oz + i, none⟩)), (109, .int .i64 oi), (110, .slice (some ⟨b, off, none⟩) n c3), (111, .int .i64 ((i : Int))), (112, .pointer (some ⟨b, off + i * 2, none⟩)), (113, .pointer (some ⟨b, off + i * 2, none⟩)), (114, .int .i64 ai), (115, .int .i64 dl), (116, .int .i64 (ai + dl)), (117, .bool false), (118, .bool false), (119, .int .i64 ((i : Int))), (120, .bool true), (121, .bool true), (122, .slice (some ⟨bz, oz, none⟩) n c4), (123, .int .i64 ((i : Int))), (124, .pointer (some ⟨bz, oz + i, none⟩)), (125, .int .i64 oi), (126, .slice (some ⟨bz, oz, none⟩) n c4), (127, .int .i64 ((i : Int))), (128, .int .i64 ((p : Int))), (129, .pointer (some ⟨bz, oz + p, none⟩)), (130, .int .i64 op), (131, .bool false), (132, .bool false), (133, .bool false)] (by simp [t0, t1, t2, t3, t4, t5, t6, t7, t8, t9, t10, t11, t12, t13, t14, t15, t16, t17, t18, t19, t20, t21, t22, t23, t24, t25, t26, t27]) (by kernel_rfl)
            have G := hJ.keep
            clear hJ t0 t1 t2 t3 t4 t5 t6 t7 t8 t9 t10 t11 t12 t13 t14 t15 t16 t17 t18 t19 t20 t21 t22 t23 t24 t25 t26 t27
            rw [hfr]
            clear hfr Tp
            simp only [List.foldl_cons, List.foldl_nil, List.setIfInBounds_toArray, List.set_cons_zero, List.set_cons_succ]
            have HR := Lib.hid (HR.out.trans G)
            clear G
            go_wp2
            go_roundw
            case rel => exact ⟨i + 1, by omega, by go_num, HR⟩
            case measure => simp [intOf]; omega
          case stepsp =>
            refine LinSteps.cons (k := 0) ?_ (LinSteps.cons (k := 1) ?_ (LinSteps.cons (k := 2) ?_ (LinSteps.cons (k := 3) ?_ (LinSteps.cons (k := 4) ?_ (LinSteps.cons (k := 5) ?_ (LinSteps.cons (k := 6) ?_ (LinSteps.cons (k := 7) ?_ (LinSteps.cons (k := 8) ?_ (LinSteps.cons (k := 9) ?_ (LinSteps.cons (k := 10) ?_ (LinSteps.cons (k := 11) ?_ (LinSteps.cons (k := 12) ?_ (LinSteps.cons (k := 13) ?_ (LinSteps.cons (k := 14) ?_ (LinSteps.cons (k := 15) ?_ (LinSteps.cons (k := 16) ?_ (LinSteps.cons (k := 17) ?_ (LinSteps.cons (k := 18) ?_ (LinSteps.cons (k := 19) ?_ (LinSteps.cons (k := 20) ?_ (LinSteps.cons (k := 21) ?_ (LinSteps.cons (k := 22) ?_ (LinSteps.cons (k := 23) ?_ (LinSteps.cons (k := 24) ?_ (LinSteps.cons (k := 25) ?_ (LinSteps.cons (k := 26) ?_ (LinSteps.cons (k := 27) ?_ (LinSteps.nil))))))))))))))))))))))))))))
            · -- 0
              refine LinStep.plain rfl ?_
              intro QQ bb T ww hn hJ hd K HK
              have s15 := (hJ.oldSlot 15 (by kernel_rfl))
              simp only [List.getElem?_toArray, List.getElem?_cons_zero, List.getElem?_cons_succ] at s15
              have G := hJ.keep
              clear hJ hd hn
              go_simp
              exact HK.out _ _ (Keep.refl _) rfl
            · -- 1
              refine LinStep.plain rfl ?_
              intro QQ bb T ww hn hJ hd K HK
              have s21 := (hJ.oldSlot 21 (by kernel_rfl))
              simp only [List.getElem?_toArray, List.getElem?_cons_zero, List.getElem?_cons_succ] at s21
              have G := hJ.keep
              clear hJ hd hn
              go_simp
              exact HK.out _ _ (Keep.refl _) rfl
            · -- 2
              refine LinStep.plain rfl ?_
              intro QQ bb T ww hn hJ hd K HK
              obtain ⟨x0, t0, f0⟩ := hJ.dep hd 0 106 (by kernel_rfl) (by kernel_rfl)
              obtain rfl : x0 = .slice (some ⟨bz, oz, none⟩) n c4 := f0
              obtain ⟨x1, t1, f1⟩ := hJ.dep hd 1 107 (by kernel_rfl) (by kernel_rfl)
              obtain rfl : x1 = .int .i64 ((i : Int)) := f1
              have G := hJ.keep
              clear hJ hd hn
              go_wp2
              exact HK.out _ _ (Keep.refl _) rfl
            · -- 3
              refine LinStep.plain rfl ?_
              intro QQ bb T ww hn hJ hd K HK
              obtain ⟨x2, t2, f2⟩ := hJ.dep hd 2 108 (by kernel_rfl) (by kernel_rfl)
              obtain rfl : x2 = .pointer (some ⟨bz, oz + i, none⟩) := f2
              have G := hJ.keep
              clear hJ hd hn
              have k0 := G.some cz
              go_simp
              exact HK.out _ _ (Keep.refl _) rfl
            · -- 4
              refine LinStep.plain rfl ?_
              intro QQ bb T ww hn hJ hd K HK
              have s14 := (hJ.oldSlot 14 (by kernel_rfl))
              simp only [List.getElem?_toArray, List.getElem?_cons_zero, List.getElem?_cons_succ] at s14
              have G := hJ.keep
              clear hJ hd hn
              go_simp
              exact HK.out _ _ (Keep.refl _) rfl
            · -- 5
              refine LinStep.plain rfl ?_
              intro QQ bb T ww hn hJ hd K HK
              have s21 := (hJ.oldSlot 21 (by kernel_rfl))
              simp only [List.getElem?_toArray, List.getElem?_cons_zero, List.getElem?_cons_succ] at s21
              have G := hJ.keep
              clear hJ hd hn
              go_simp
              exact HK.out _ _ (Keep.refl _) rfl
            · -- 6
              refine LinStep.plain rfl ?_
              intro QQ bb T ww hn hJ hd K HK
              obtain ⟨x4, t4, f4⟩ := hJ.dep hd 4 110 (by kernel_rfl) (by kernel_rfl)
              obtain rfl : x4 = .slice (some ⟨b, off, none⟩) n c3 := f4
              obtain ⟨x5, t5, f5⟩ := hJ.dep hd 5 111 (by kernel_rfl) (by kernel_rfl)
              obtain rfl : x5 = .int .i64 ((i : Int)) := f5
              have G := hJ.keep
              clear hJ hd hn
              go_wp2
              exact HK.out _ _ (Keep.refl _) rfl
            · -- 7
              refine LinStep.plain rfl ?_
              intro QQ bb T ww hn hJ hd K HK
              obtain ⟨x6, t6, f6⟩ := hJ.dep hd 6 112 (by kernel_rfl) (by kernel_rfl)
              obtain rfl : x6 = .pointer (some ⟨b, off + i * 2, none⟩) := f6
              have G := hJ.keep
              clear hJ hd hn
              go_simp
              exact HK.out _ _ (Keep.refl _) rfl
            · -- 8
              refine LinStep.plain rfl ?_
              intro QQ bb T ww hn hJ hd K HK
              obtain ⟨x7, t7, f7⟩ := hJ.dep hd 7 113 (by kernel_rfl) (by kernel_rfl)
              obtain rfl : x7 = .pointer (some ⟨b, off + i * 2, none⟩) := f7
              have G := hJ.keep
              clear hJ hd hn
              have k0 := G.some ca
              go_simp
              exact HK.out _ _ (Keep.refl _) rfl
            · -- 9
              refine LinStep.plain rfl ?_
              intro QQ bb T ww hn hJ hd K HK
              have s17 := (hJ.oldSlot 17 (by kernel_rfl))
              simp only [List.getElem?_toArray, List.getElem?_cons_zero, List.getElem?_cons_succ] at s17
              have G := hJ.keep
              clear hJ hd hn
              go_simp
              exact HK.out _ _ (Keep.refl _) rfl
            · -- 10
              refine LinStep.plain rfl ?_
              intro QQ bb T ww hn hJ hd K HK
              obtain ⟨x8, t8, f8⟩ := hJ.dep hd 8 114 (by kernel_rfl) (by kernel_rfl)
              obtain rfl : x8 = .int .i64 ai := f8
              obtain ⟨x9, t9, f9⟩ := hJ.dep hd 9 115 (by kernel_rfl) (by kernel_rfl)
              obtain rfl : x9 = .int .i64 dl := f9
              have G := hJ.keep
              clear hJ hd hn
              have e1 : IntKind.i64.wrap (ai + dl) = ai + dl := IntWalk.i64_in _ (by omega)
              go_simp
              exact HK.out _ _ (Keep.refl _) rfl
            · -- 11
              refine LinStep.plain rfl ?_
              intro QQ bb T ww hn hJ hd K HK
              obtain ⟨x3, t3, f3⟩ := hJ.dep hd 3 109 (by kernel_rfl) (by kernel_rfl)
              obtain rfl : x3 = .int .i64 oi := f3
              obtain ⟨x10, t10, f10⟩ := hJ.dep hd 10 116 (by kernel_rfl) (by kernel_rfl)
              obtain rfl : x10 = .int .i64 (ai + dl) := f10
              have G := hJ.keep
              clear hJ hd hn
              go_simp
              exact HK.out _ _ (Keep.refl _) rfl
            · -- 12
              refine LinStep.plain rfl ?_
              intro QQ bb T ww hn hJ hd K HK
              obtain ⟨x11, t11, f11⟩ := hJ.dep hd 11 117 (by kernel_rfl) (by kernel_rfl)
              obtain rfl : x11 = .bool false := f11
              have G := hJ.keep
              clear hJ hd hn
              go_simp
              exact HK.out _ _ (Keep.refl _) rfl
            · -- 13
              refine LinStep.guarded 12 118 false rfl (by kernel_rfl) (by kernel_rfl) (fun _ _ h => h) ?_
              intro QQ bb T ww hn hJ hd K HK
              have s21 := (hJ.oldSlot 21 (by kernel_rfl))
              simp only [List.getElem?_toArray, List.getElem?_cons_zero, List.getElem?_cons_succ] at s21
              have G := hJ.keep
              clear hJ hd hn
              go_simp
              exact HK.out _ _ (Keep.refl _) rfl
            · -- 14
              refine LinStep.guarded 12 118 false rfl (by kernel_rfl) (by kernel_rfl) (fun _ _ h => h) ?_
              intro QQ bb T ww hn hJ hd K HK
              obtain ⟨x13, t13, f13⟩ := hJ.dep hd 13 119 (by kernel_rfl) (by kernel_rfl)
              obtain rfl : x13 = .int .i64 ((i : Int)) := f13
              have G := hJ.keep
              clear hJ hd hn
              go_simp
              exact HK.out _ _ (Keep.refl _) (rfl)
            · -- 15
              refine LinStep.guarded 12 118 false rfl (by kernel_rfl) (by kernel_rfl) (fun _ _ h => h) ?_
              intro QQ bb T ww hn hJ hd K HK
              obtain ⟨x14, t14, f14⟩ := hJ.dep hd 14 120 (by kernel_rfl) (by kernel_rfl)
              obtain rfl : x14 = .bool true := f14
              have G := hJ.keep
              clear hJ hd hn
              go_simp
              exact HK.out _ _ (Keep.refl _) rfl
            · -- 16
              refine LinStep.guarded 15 121 true rfl (by kernel_rfl) (by kernel_rfl) (fun _ _ h => h) ?_
              intro QQ bb T ww hn hJ hd K HK
              have s15 := (hJ.oldSlot 15 (by kernel_rfl))
              simp only [List.getElem?_toArray, List.getElem?_cons_zero, List.getElem?_cons_succ] at s15
              have G := hJ.keep
              clear hJ hd hn
              go_simp
              exact HK.out _ _ (Keep.refl _) rfl
            · -- 17
              refine LinStep.guarded 15 121 true rfl (by kernel_rfl) (by kernel_rfl) (fun _ _ h => h) ?_
              intro QQ bb T ww hn hJ hd K HK
              have s21 := (hJ.oldSlot 21 (by kernel_rfl))
              simp only [List.getElem?_toArray, List.getElem?_cons_zero, List.getElem?_cons_succ] at s21
              have G := hJ.keep
              clear hJ hd hn
              go_simp
              exact HK.out _ _ (Keep.refl _) rfl
            · -- 18
              refine LinStep.guarded 15 121 true rfl (by kernel_rfl) (by kernel_rfl) (fun _ _ h => h) ?_
              intro QQ bb T ww hn hJ hd K HK
              obtain ⟨x16, t16, f16⟩ := hJ.dep hd 16 122 (by kernel_rfl) (by kernel_rfl)
              obtain rfl : x16 = .slice (some ⟨bz, oz, none⟩) n c4 := f16
              obtain ⟨x17, t17, f17⟩ := hJ.dep hd 17 123 (by kernel_rfl) (by kernel_rfl)
              obtain rfl : x17 = .int .i64 ((i : Int)) := f17
              have G := hJ.keep
              clear hJ hd hn
              go_wp2
              exact HK.out _ _ (Keep.refl _) rfl
            · -- 19
              refine LinStep.guarded 15 121 true rfl (by kernel_rfl) (by kernel_rfl) (fun _ _ h => h) ?_
              intro QQ bb T ww hn hJ hd K HK
              obtain ⟨x18, t18, f18⟩ := hJ.dep hd 18 124 (by kernel_rfl) (by kernel_rfl)
              obtain rfl : x18 = .pointer (some ⟨bz, oz + i, none⟩) := f18
              have G := hJ.keep
              clear hJ hd hn
              have k0 := G.some cz
              go_simp
              exact HK.out _ _ (Keep.refl _) rfl
            · -- 20
              refine LinStep.guarded 15 121 true rfl (by kernel_rfl) (by kernel_rfl) (fun _ _ h => h) ?_
              intro QQ bb T ww hn hJ hd K HK
              have s15 := (hJ.oldSlot 15 (by kernel_rfl))
              simp only [List.getElem?_toArray, List.getElem?_cons_zero, List.getElem?_cons_succ] at s15
              have G := hJ.keep
              clear hJ hd hn
              go_simp
              exact HK.out _ _ (Keep.refl _) rfl
            · -- 21
              refine LinStep.guarded 15 121 true rfl (by kernel_rfl) (by kernel_rfl) (fun _ _ h => h) ?_
              intro QQ bb T ww hn hJ hd K HK
              have s21 := (hJ.oldSlot 21 (by kernel_rfl))
              simp only [List.getElem?_toArray, List.getElem?_cons_zero, List.getElem?_cons_succ] at s21
              have G := hJ.keep
              clear hJ hd hn
              go_simp
              exact HK.out _ _ (Keep.refl _) rfl
            · -- 22
              refine LinStep.guarded 15 121 true rfl (by kernel_rfl) (by kernel_rfl) (fun _ _ h => h) ?_
              intro QQ bb T ww hn hJ hd K HK
              obtain ⟨x21, t21, f21⟩ := hJ.dep hd 21 127 (by kernel_rfl) (by kernel_rfl)
              obtain rfl : x21 = .int .i64 ((i : Int)) := f21
              have G := hJ.keep
              clear hJ hd hn
              have e1 : IntKind.i64.wrap (p : Int) = (p : Int) := IntWalk.i64_in _ (by omega)
              go_simp
              exact HK.out _ _ (Keep.refl _) rfl
            · -- 23
              refine LinStep.guarded 15 121 true rfl (by kernel_rfl) (by kernel_rfl) (fun _ _ h => h) ?_
              intro QQ bb T ww hn hJ hd K HK
              obtain ⟨x20, t20, f20⟩ := hJ.dep hd 20 126 (by kernel_rfl) (by kernel_rfl)
              obtain rfl : x20 = .slice (some ⟨bz, oz, none⟩) n c4 := f20
              obtain ⟨x22, t22, f22⟩ := hJ.dep hd 22 128 (by kernel_rfl) (by kernel_rfl)
              obtain rfl : x22 = .int .i64 ((p : Int)) := f22
              have G := hJ.keep
              clear hJ hd hn
              go_wp2
              exact HK.out _ _ (Keep.refl _) rfl
            · -- 24
              refine LinStep.guarded 15 121 true rfl (by kernel_rfl) (by kernel_rfl) (fun _ _ h => h) ?_
              intro QQ bb T ww hn hJ hd K HK
              obtain ⟨x23, t23, f23⟩ := hJ.dep hd 23 129 (by kernel_rfl) (by kernel_rfl)
              obtain rfl : x23 = .pointer (some ⟨bz, oz + p, none⟩) := f23
              have G := hJ.keep
              clear hJ hd hn
              have k0 := G.some cp
              go_simp
              exact HK.out _ _ (Keep.refl _) rfl
            · -- 25
              refine LinStep.guarded 15 121 true rfl (by kernel_rfl) (by kernel_rfl) (fun _ _ h => h) ?_
              intro QQ bb T ww hn hJ hd K HK
              obtain ⟨x19, t19, f19⟩ := hJ.dep hd 19 125 (by kernel_rfl) (by kernel_rfl)
              obtain rfl : x19 = .int .i64 oi := f19
              obtain ⟨x24, t24, f24⟩ := hJ.dep hd 24 130 (by kernel_rfl) (by kernel_rfl)
              obtain rfl : x24 = .int .i64 op := f24
              have G := hJ.keep
              clear hJ hd hn
              go_simp
              exact HK.out _ _ (Keep.refl _) rfl
            · -- 26
              refine LinStep.guarded 12 118 false rfl (by kernel_rfl) (by kernel_rfl) (fun _ _ h => h) ?_
              intro QQ bb T ww hn hJ hd K HK
              obtain ⟨x15, t15, f15⟩ := hJ.dep hd 15 121 (by kernel_rfl) (by kernel_rfl)
              obtain rfl : x15 = .bool true := f15
              obtain ⟨x25, t25, f25⟩ := hJ.dep hd 25 131 (by kernel_rfl) (by kernel_rfl)
              obtain rfl : x25 = .bool false := f25
              have G := hJ.keep
              clear hJ hd hn
              go_simp
              exact HK.out _ _ (Keep.refl _) rfl
            · -- 27
              refine LinStep.plain rfl ?_
              intro QQ bb T ww hn hJ hd K HK
              obtain ⟨x12, t12, f12⟩ := hJ.dep hd 12 118 (by kernel_rfl) (by kernel_rfl)
              obtain rfl : x12 = .bool false := f12
              obtain ⟨x26, t26, f26⟩ := hJ.dep hd 26 132 (by kernel_rfl) (by kernel_rfl)
              obtain rfl : x26 = .bool false := f26
              have G := hJ.keep
              clear hJ hd hn
              go_simp
              exact HK.out _ _ (Keep.refl _) rfl
      · obtain rfl : i = n := by omega
        go_wp2
        go_ret
        exact ⟨rfl, KK.out.trans HR.out⟩
  · have H3 := Lib.hid hone
    clear hone
    go_enter Try.func9, Try.ntmps9
    go_wp2_with fail
    go_at_call 32
    refine (works4_yes _).mono ?_
    rintro _ w1 ⟨rfl, k1⟩
    have d0 := k1.some (by first | exact d0 | exact cell_alloc_old _ d0 | exact cell_alloc_old _ (cell_alloc_old _ d0) | exact cell_alloc_old _ (cell_alloc_old _ (cell_alloc_old _ d0)))
    have d1 := k1.some (by first | exact d1 | exact cell_alloc_old _ d1 | exact cell_alloc_old _ (cell_alloc_old _ d1) | exact cell_alloc_old _ (cell_alloc_old _ (cell_alloc_old _ d1)))
    have d2 := k1.some (by first | exact d2 | exact cell_alloc_old _ d2 | exact cell_alloc_old _ (cell_alloc_old _ d2) | exact cell_alloc_old _ (cell_alloc_old _ (cell_alloc_old _ d2)))
    have d3 := k1.some (by first | exact d3 | exact cell_alloc_old _ d3 | exact cell_alloc_old _ (cell_alloc_old _ d3) | exact cell_alloc_old _ (cell_alloc_old _ (cell_alloc_old _ d3)))
    have HD := Lib.hid (by first | exact HD.out.keep k1 | exact HD.out.keep ((Keep.alloc (Keep.refl _) _).trans k1) | exact HD.out.keep (((Keep.alloc (Keep.refl _) _).alloc _).trans k1) | exact HD.out.keep ((((Keep.alloc (Keep.refl _) _).alloc _).alloc _).trans k1))
    have KK := Lib.hid (by first | exact KK.out.trans k1 | exact (KK.out.alloc _).trans k1 | exact ((KK.out.alloc _).alloc _).trans k1 | exact (((KK.out.alloc _).alloc _).alloc _).trans k1)
    have hd0 := cellBlock d0
    go_wp2_with fail
    go_at_call 16
    refine (draftBucket_is _ B R gs ss _ HD X Y HX HY).mono ?_
    rintro _ w2 ⟨rfl, k2⟩
    have d0 := k2.some (by first | exact d0 | exact cell_alloc_old _ d0 | exact cell_alloc_old _ (cell_alloc_old _ d0) | exact cell_alloc_old _ (cell_alloc_old _ (cell_alloc_old _ d0)))
    have d1 := k2.some (by first | exact d1 | exact cell_alloc_old _ d1 | exact cell_alloc_old _ (cell_alloc_old _ d1) | exact cell_alloc_old _ (cell_alloc_old _ (cell_alloc_old _ d1)))
    have d2 := k2.some (by first | exact d2 | exact cell_alloc_old _ d2 | exact cell_alloc_old _ (cell_alloc_old _ d2) | exact cell_alloc_old _ (cell_alloc_old _ (cell_alloc_old _ d2)))
    have d3 := k2.some (by first | exact d3 | exact cell_alloc_old _ d3 | exact cell_alloc_old _ (cell_alloc_old _ d3) | exact cell_alloc_old _ (cell_alloc_old _ (cell_alloc_old _ d3)))
    have HD := Lib.hid (by first | exact HD.out.keep k2 | exact HD.out.keep ((Keep.alloc (Keep.refl _) _).trans k2) | exact HD.out.keep (((Keep.alloc (Keep.refl _) _).alloc _).trans k2) | exact HD.out.keep ((((Keep.alloc (Keep.refl _) _).alloc _).alloc _).trans k2))
    have KK := Lib.hid (by first | exact KK.out.trans k2 | exact (KK.out.alloc _).trans k2 | exact ((KK.out.alloc _).alloc _).trans k2 | exact (((KK.out.alloc _).alloc _).alloc _).trans k2)
    have hd0 := cellBlock d0
    try rw [hBo, hRo]
    have HD := Lib.hid (HD.out.keep (((Keep.alloc (Keep.refl _) (.cells #[.int .i64 X, .int .i64 Y] 30)).alloc (.cells #[.int .i64 Bo, .int .i64 Ro] 30)).alloc (.cells #[.int .i64 S, .int .i64 L] 54)))
    have d0 := cell_alloc_old (.cells #[.int .i64 S, .int .i64 L] 54) (cell_alloc_old (.cells #[.int .i64 Bo, .int .i64 Ro] 30) (cell_alloc_old (.cells #[.int .i64 X, .int .i64 Y] 30) d0))
    have d1 := cell_alloc_old (.cells #[.int .i64 S, .int .i64 L] 54) (cell_alloc_old (.cells #[.int .i64 Bo, .int .i64 Ro] 30) (cell_alloc_old (.cells #[.int .i64 X, .int .i64 Y] 30) d1))
    have d2 := cell_alloc_old (.cells #[.int .i64 S, .int .i64 L] 54) (cell_alloc_old (.cells #[.int .i64 Bo, .int .i64 Ro] 30) (cell_alloc_old (.cells #[.int .i64 X, .int .i64 Y] 30) d2))
    have d3 := cell_alloc_old (.cells #[.int .i64 S, .int .i64 L] 54) (cell_alloc_old (.cells #[.int .i64 Bo, .int .i64 Ro] 30) (cell_alloc_old (.cells #[.int .i64 X, .int .i64 Y] 30) d3))
    go_wp2_with fail
    go_at_call 43
    refine (conf2_is _ B R gs ss Bo Ro _ HD X Y HX HY l Hl HBo c HCC).mono ?_
    rintro _ w3 ⟨v3, rfl, hr, k3, -⟩
    have b0 : w3.cell? ⟨w2.heap.size, 0, none⟩ = some (.int .i64 X) := k3.some (by first | (simp [go_sem]; done) | exact cell_alloc_old _ (by simp [go_sem]) | exact cell_alloc_old _ (cell_alloc_old _ (by simp [go_sem])))
    have b1 : w3.cell? ⟨w2.heap.size, 1, none⟩ = some (.int .i64 Y) := k3.some (by first | (simp [go_sem]; done) | exact cell_alloc_old _ (by simp [go_sem]) | exact cell_alloc_old _ (cell_alloc_old _ (by simp [go_sem])))
    have o0 : w3.cell? ⟨w2.heap.size + 1, 0, none⟩ = some (.int .i64 Bo) := k3.some (by first | (simp [go_sem]; done) | exact cell_alloc_old _ (by simp [go_sem]) | exact cell_alloc_old _ (cell_alloc_old _ (by simp [go_sem])))
    have o1 : w3.cell? ⟨w2.heap.size + 1, 1, none⟩ = some (.int .i64 Ro) := k3.some (by first | (simp [go_sem]; done) | exact cell_alloc_old _ (by simp [go_sem]) | exact cell_alloc_old _ (cell_alloc_old _ (by simp [go_sem])))
    have s0 : w3.cell? ⟨w2.heap.size + 1 + 1, 0, none⟩ = some (.int .i64 S) := k3.some (by first | (simp [go_sem]; done) | exact cell_alloc_old _ (by simp [go_sem]) | exact cell_alloc_old _ (cell_alloc_old _ (by simp [go_sem])))
    have s1 : w3.cell? ⟨w2.heap.size + 1 + 1, 1, none⟩ = some (.int .i64 L) := k3.some (by first | (simp [go_sem]; done) | exact cell_alloc_old _ (by simp [go_sem]) | exact cell_alloc_old _ (cell_alloc_old _ (by simp [go_sem])))
    have KK := Lib.hid (by first | exact KK.out.trans k3 | exact (KK.out.alloc _).trans k3 | exact ((KK.out.alloc _).alloc _).trans k3 | exact (((KK.out.alloc _).alloc _).alloc _).trans k3)
    have hb0 := cellBlock b0
    have ho0 := cellBlock o0
    have hs0 := cellBlock s0
    obtain ⟨a3, c3, rfl, -⟩ := hr.form
    obtain ⟨n, hn⟩ : ∃ n, c.length = n := ⟨_, rfl⟩
    have HL := Lib.hid hn
    rw [hn] at hr hle ⊢
    have RW := Lib.hid hr
    clear hr hn HD d0 d1 d2 d3 hbu hra hmo
    go_wp2_with fail
    go_at_call 40
    refine (drain_slice a3 n c3 c S L _ _ RW H2).mono ?_
    rintro _ w4 ⟨v4, rfl, z4, k4⟩
    have b0 := k4.some (by first | exact b0 | exact cell_alloc_old _ b0 | exact cell_alloc_old _ (cell_alloc_old _ b0) | exact cell_alloc_old _ (cell_alloc_old _ (cell_alloc_old _ b0)))
    have b1 := k4.some (by first | exact b1 | exact cell_alloc_old _ b1 | exact cell_alloc_old _ (cell_alloc_old _ b1) | exact cell_alloc_old _ (cell_alloc_old _ (cell_alloc_old _ b1)))
    have o0 := k4.some (by first | exact o0 | exact cell_alloc_old _ o0 | exact cell_alloc_old _ (cell_alloc_old _ o0) | exact cell_alloc_old _ (cell_alloc_old _ (cell_alloc_old _ o0)))
    have o1 := k4.some (by first | exact o1 | exact cell_alloc_old _ o1 | exact cell_alloc_old _ (cell_alloc_old _ o1) | exact cell_alloc_old _ (cell_alloc_old _ (cell_alloc_old _ o1)))
    have s0 := k4.some (by first | exact s0 | exact cell_alloc_old _ s0 | exact cell_alloc_old _ (cell_alloc_old _ s0) | exact cell_alloc_old _ (cell_alloc_old _ (cell_alloc_old _ s0)))
    have s1 := k4.some (by first | exact s1 | exact cell_alloc_old _ s1 | exact cell_alloc_old _ (cell_alloc_old _ s1) | exact cell_alloc_old _ (cell_alloc_old _ (cell_alloc_old _ s1)))
    have RW := Lib.hid (by first | exact RW.out.keep k4 | exact RW.out.keep ((Keep.alloc (Keep.refl _) _).trans k4) | exact RW.out.keep (((Keep.alloc (Keep.refl _) _).alloc _).trans k4) | exact RW.out.keep ((((Keep.alloc (Keep.refl _) _).alloc _).alloc _).trans k4))
    have KK := Lib.hid (by first | exact KK.out.trans k4 | exact (KK.out.alloc _).trans k4 | exact ((KK.out.alloc _).alloc _).trans k4 | exact (((KK.out.alloc _).alloc _).alloc _).trans k4)
    have hb0 := cellBlock b0
    have ho0 := cellBlock o0
    have hs0 := cellBlock s0
    obtain ⟨a4, n4, c4, rfl, hl4, -, -⟩ := z4.form
    obtain rfl : n = n4 := by rw [← hl4, HZL.out, HL.out]
    have ZL := Lib.hid z4
    clear z4 hl4
    go_wp2_with fail
    go_at_call 33
    refine (delay_is _ 2 2 [(X, Y), (Bo, Ro)] S L dl 0 _ (Lib.hid (rowAll _ [(X, Y), (Bo, Ro)] _ _ _ 2 (by simp) rfl rfl (by simp))) H1).mono ?_
    rintro _ w5 ⟨rfl, k5⟩
    have b0 := k5.some (by first | exact b0 | exact cell_alloc_old _ b0 | exact cell_alloc_old _ (cell_alloc_old _ b0) | exact cell_alloc_old _ (cell_alloc_old _ (cell_alloc_old _ b0)))
    have b1 := k5.some (by first | exact b1 | exact cell_alloc_old _ b1 | exact cell_alloc_old _ (cell_alloc_old _ b1) | exact cell_alloc_old _ (cell_alloc_old _ (cell_alloc_old _ b1)))
    have o0 := k5.some (by first | exact o0 | exact cell_alloc_old _ o0 | exact cell_alloc_old _ (cell_alloc_old _ o0) | exact cell_alloc_old _ (cell_alloc_old _ (cell_alloc_old _ o0)))
    have o1 := k5.some (by first | exact o1 | exact cell_alloc_old _ o1 | exact cell_alloc_old _ (cell_alloc_old _ o1) | exact cell_alloc_old _ (cell_alloc_old _ (cell_alloc_old _ o1)))
    have s0 := k5.some (by first | exact s0 | exact cell_alloc_old _ s0 | exact cell_alloc_old _ (cell_alloc_old _ s0) | exact cell_alloc_old _ (cell_alloc_old _ (cell_alloc_old _ s0)))
    have s1 := k5.some (by first | exact s1 | exact cell_alloc_old _ s1 | exact cell_alloc_old _ (cell_alloc_old _ s1) | exact cell_alloc_old _ (cell_alloc_old _ (cell_alloc_old _ s1)))
    have RW := Lib.hid (by first | exact RW.out.keep k5 | exact RW.out.keep ((Keep.alloc (Keep.refl _) _).trans k5) | exact RW.out.keep (((Keep.alloc (Keep.refl _) _).alloc _).trans k5) | exact RW.out.keep ((((Keep.alloc (Keep.refl _) _).alloc _).alloc _).trans k5))
    have ZL := Lib.hid (by first | exact ZL.out.keep k5 | exact ZL.out.keep ((Keep.alloc (Keep.refl _) _).trans k5) | exact ZL.out.keep (((Keep.alloc (Keep.refl _) _).alloc _).trans k5) | exact ZL.out.keep ((((Keep.alloc (Keep.refl _) _).alloc _).alloc _).trans k5))
    have KK := Lib.hid (by first | exact KK.out.trans k5 | exact (KK.out.alloc _).trans k5 | exact ((KK.out.alloc _).alloc _).trans k5 | exact (((KK.out.alloc _).alloc _).alloc _).trans k5)
    have hb0 := cellBlock b0
    have ho0 := cellBlock o0
    have hs0 := cellBlock s0
    go_wp2_with fail
    go_at_call 33
    refine (delay_is _ 1 1 [(Bo, Ro)] S L 0 141 _ (Lib.hid (rowAll _ [(Bo, Ro)] _ _ _ 1 (by simp) rfl rfl (by simp))) H3).mono ?_
    rintro _ w6 ⟨rfl, k6⟩
    have b0 := k6.some (by first | exact b0 | exact cell_alloc_old _ b0 | exact cell_alloc_old _ (cell_alloc_old _ b0) | exact cell_alloc_old _ (cell_alloc_old _ (cell_alloc_old _ b0)))
    have b1 := k6.some (by first | exact b1 | exact cell_alloc_old _ b1 | exact cell_alloc_old _ (cell_alloc_old _ b1) | exact cell_alloc_old _ (cell_alloc_old _ (cell_alloc_old _ b1)))
    have o0 := k6.some (by first | exact o0 | exact cell_alloc_old _ o0 | exact cell_alloc_old _ (cell_alloc_old _ o0) | exact cell_alloc_old _ (cell_alloc_old _ (cell_alloc_old _ o0)))
    have o1 := k6.some (by first | exact o1 | exact cell_alloc_old _ o1 | exact cell_alloc_old _ (cell_alloc_old _ o1) | exact cell_alloc_old _ (cell_alloc_old _ (cell_alloc_old _ o1)))
    have s0 := k6.some (by first | exact s0 | exact cell_alloc_old _ s0 | exact cell_alloc_old _ (cell_alloc_old _ s0) | exact cell_alloc_old _ (cell_alloc_old _ (cell_alloc_old _ s0)))
    have s1 := k6.some (by first | exact s1 | exact cell_alloc_old _ s1 | exact cell_alloc_old _ (cell_alloc_old _ s1) | exact cell_alloc_old _ (cell_alloc_old _ (cell_alloc_old _ s1)))
    have RW := Lib.hid (by first | exact RW.out.keep k6 | exact RW.out.keep ((Keep.alloc (Keep.refl _) _).trans k6) | exact RW.out.keep (((Keep.alloc (Keep.refl _) _).alloc _).trans k6) | exact RW.out.keep ((((Keep.alloc (Keep.refl _) _).alloc _).alloc _).trans k6))
    have ZL := Lib.hid (by first | exact ZL.out.keep k6 | exact ZL.out.keep ((Keep.alloc (Keep.refl _) _).trans k6) | exact ZL.out.keep (((Keep.alloc (Keep.refl _) _).alloc _).trans k6) | exact ZL.out.keep ((((Keep.alloc (Keep.refl _) _).alloc _).alloc _).trans k6))
    have KK := Lib.hid (by first | exact KK.out.trans k6 | exact (KK.out.alloc _).trans k6 | exact ((KK.out.alloc _).alloc _).trans k6 | exact (((KK.out.alloc _).alloc _).alloc _).trans k6)
    have hb0 := cellBlock b0
    have ho0 := cellBlock o0
    have hs0 := cellBlock s0
    have eN : ((n : Int) != (n : Int)) = false := by simp
    have hgt : ¬ Ro ≤ S := by omega
    go_wp2
    have HRF := Lib.hid RW.out.form
    obtain ⟨a4', n4', c4', e4, hl4, -, hz4⟩ := ZL.out.form
    cases e4
    have HZF := Lib.hid hz4
    have HFC : Hid (∀ j, j < n → ∃ b off, a3 = some ⟨b, off, none⟩ ∧ w6.cell? ⟨b, off + j * 2, none⟩ = some (.int .i64 (atL c j))) := Lib.hid fun j hj => by
      obtain ⟨a, cap, e, h⟩ := HRF.out
      cases e
      obtain ⟨b, off, e1, h1, -⟩ := h j (by rw [HL.out]; exact hj)
      exact ⟨b, off, e1, h1⟩
    clear hz4 hl4 HRF RW ZL b0 b1 o0 o1 s0 s1 hb0 ho0 hs0 H1 H2 H3
    go_loopw [21] (fun s21 wr => ∃ i : Nat, i ≤ n ∧ s21 = .int .i64 (i : Int) ∧ Hid (Keep w6 wr)) (fun i _ => n - (intOf i).toNat)
    case atStart => exact ⟨0, by omega, rfl, Lib.hid (Keep.refl _)⟩
    case round =>
      obtain ⟨i, hi, rfl, HR⟩ := hrel
      by_cases hlt : i < n
      · have hlt' : (i : Int) < (n : Int) := by omega
        obtain ⟨b, off, rfl, ca⟩ := HFC.out i hlt
        obtain ⟨bz, oz, rfl, cz⟩ := HZF.out i hlt
        have HZF2 : Hid (∀ j, j < n → w6.cell? ⟨bz, oz + j, none⟩ = some (.int .i64 (zs.getD j 0))) := Lib.hid fun j hj => by
          obtain ⟨b', o', e, h⟩ := HZF.out j hj
          cases e
          exact h
        have ca := HR.out.some ca
        have cz := HR.out.some cz
        have hm := HM.out i (by rw [HL.out]; exact hlt)
        have ba := okSteps_bd HK.out.2 i (by rw [HL.out]; exact hlt)
        obtain ⟨ai, hai⟩ : ∃ x, atL c i = x := ⟨_, rfl⟩
        obtain ⟨oi, hoi⟩ : ∃ x, zs.getD i 0 = x := ⟨_, rfl⟩
        rw [hai] at ca hm ba
        rw [hoi] at cz hm
        have HOI := Lib.hid hoi
        have hgt2 : ¬ ai + dl < oi := by omega
        have hcb := cellBlock ca
        have hzb := cellBlock cz
        clear hai hoi hm
        rcases Nat.eq_zero_or_pos i with hi0 | hip
        · have hip' : ¬ (0 : Int) < (i : Int) := by omega
          clear hi0
          go_upto_region 14 with fail
          refine region_lin (W0 := wr) (listF [fun v ww => v = .slice (some ⟨bz, oz, none⟩) n c4, fun v ww => v = .int .i64 ((i : Int)), fun v ww => v = .pointer (some ⟨bz, oz + i, none⟩), fun v ww => v = .int .i64 oi, fun v ww => v = .slice (some ⟨b, off, none⟩) n c3, fun v ww => v = .int .i64 ((i : Int)), fun v ww => v = .pointer (some ⟨b, off + i * 2, none⟩), fun v ww => v = .pointer (some ⟨b, off + i * 2, none⟩), fun v ww => v = .int .i64 ai, fun v ww => v = .int .i64 dl, fun v ww => v = .int .i64 (ai + dl), fun v ww => v = .bool false, fun v ww => v = .bool false, fun v ww => v = .int .i64 ((i : Int)), fun v ww => v = .bool false, fun v ww => v = .bool false, fun v ww => v = undef, fun v ww => v = undef, fun v ww => v = undef, fun v ww => v = undef, fun v ww => v = undef, fun v ww => v = undef, fun v ww => v = undef, fun v ww => v = undef, fun v ww => v = undef, fun v ww => v = undef, fun v ww => v = .bool false, fun v ww => v = .bool false]) (listF_stable _ ⟨fun _ _ _ _ h => h, fun _ _ _ _ h => h, fun _ _ _ _ h => h, fun _ _ _ _ h => h, fun _ _ _ _ h => h, fun _ _ _ _ h => h, fun _ _ _ _ h => h, fun _ _ _ _ h => h, fun _ _ _ _ h => h, fun _ _ _ _ h => h, fun _ _ _ _ h => h, fun _ _ _ _ h => h, fun _ _ _ _ h => h, fun _ _ _ _ h => h, fun _ _ _ _ h => h, fun _ _ _ _ h => h, fun _ _ _ _ h => h, fun _ _ _ _ h => h, fun _ _ _ _ h => h, fun _ _ _ _ h => h, fun _ _ _ _ h => h, fun _ _ _ _ h => h, fun _ _ _ _ h => h, fun _ _ _ _ h => h, fun _ _ _ _ h => h, fun _ _ _ _ h => h, fun _ _ _ _ h => h, fun _ _ _ _ h => h, trivial⟩) (by kernel_rfl) (by kernel_rfl) (by kernel_rfl) (by kernel_rfl) (Keep.refl _) ?donez ?stepsz
          case donez =>
            intro Tz wzz hJ
            obtain ⟨x0, t0, f0⟩ := hJ.fact 0 106 (by decide) (by kernel_rfl)
            obtain rfl : x0 = .slice (some ⟨bz, oz, none⟩) n c4 := f0
            obtain ⟨x1, t1, f1⟩ := hJ.fact 1 107 (by decide) (by kernel_rfl)
            obtain rfl : x1 = .int .i64 ((i : Int)) := f1
            obtain ⟨x2, t2, f2⟩ := hJ.fact 2 108 (by decide) (by kernel_rfl)
            obtain rfl : x2 = .pointer (some ⟨bz, oz + i, none⟩) := f2
            obtain ⟨x3, t3, f3⟩ := hJ.fact 3 109 (by decide) (by kernel_rfl)
            obtain rfl : x3 = .int .i64 oi := f3
            obtain ⟨x4, t4, f4⟩ := hJ.fact 4 110 (by decide) (by kernel_rfl)
            obtain rfl : x4 = .slice (some ⟨b, off, none⟩) n c3 := f4
            obtain ⟨x5, t5, f5⟩ := hJ.fact 5 111 (by decide) (by kernel_rfl)
            obtain rfl : x5 = .int .i64 ((i : Int)) := f5
            obtain ⟨x6, t6, f6⟩ := hJ.fact 6 112 (by decide) (by kernel_rfl)
            obtain rfl : x6 = .pointer (some ⟨b, off + i * 2, none⟩) := f6
            obtain ⟨x7, t7, f7⟩ := hJ.fact 7 113 (by decide) (by kernel_rfl)
            obtain rfl : x7 = .pointer (some ⟨b, off + i * 2, none⟩) := f7
            obtain ⟨x8, t8, f8⟩ := hJ.fact 8 114 (by decide) (by kernel_rfl)
            obtain rfl : x8 = .int .i64 ai := f8
            obtain ⟨x9, t9, f9⟩ := hJ.fact 9 115 (by decide) (by kernel_rfl)
            obtain rfl : x9 = .int .i64 dl := f9
            obtain ⟨x10, t10, f10⟩ := hJ.fact 10 116 (by decide) (by kernel_rfl)
            obtain rfl : x10 = .int .i64 (ai + dl) := f10
            obtain ⟨x11, t11, f11⟩ := hJ.fact 11 117 (by decide) (by kernel_rfl)
            obtain rfl : x11 = .bool false := f11
            obtain ⟨x12, t12, f12⟩ := hJ.fact 12 118 (by decide) (by kernel_rfl)
            obtain rfl : x12 = .bool false := f12
            obtain ⟨x13, t13, f13⟩ := hJ.fact 13 119 (by decide) (by kernel_rfl)
            obtain rfl : x13 = .int .i64 ((i : Int)) := f13
            obtain ⟨x14, t14, f14⟩ := hJ.fact 14 120 (by decide) (by kernel_rfl)
            obtain rfl : x14 = .bool false := f14
            obtain ⟨x15, t15, f15⟩ := hJ.fact 15 121 (by decide) (by kernel_rfl)
            obtain rfl : x15 = .bool false := f15
            obtain ⟨x16, t16, f16⟩ := hJ.fact 16 122 (by decide) (by kernel_rfl)
            obtain rfl : undef = x16 := f16.symm
            obtain ⟨x17, t17, f17⟩ := hJ.fact 17 123 (by decide) (by kernel_rfl)
            obtain rfl : undef = x17 := f17.symm
            obtain ⟨x18, t18, f18⟩ := hJ.fact 18 124 (by decide) (by kernel_rfl)
            obtain rfl : undef = x18 := f18.symm
            obtain ⟨x19, t19, f19⟩ := hJ.fact 19 125 (by decide) (by kernel_rfl)
            obtain rfl : undef = x19 := f19.symm
            obtain ⟨x20, t20, f20⟩ := hJ.fact 20 126 (by decide) (by kernel_rfl)
            obtain rfl : undef = x20 := f20.symm
            obtain ⟨x21, t21, f21⟩ := hJ.fact 21 127 (by decide) (by kernel_rfl)
            obtain rfl : undef = x21 := f21.symm
            obtain ⟨x22, t22, f22⟩ := hJ.fact 22 128 (by decide) (by kernel_rfl)
            obtain rfl : undef = x22 := f22.symm
            obtain ⟨x23, t23, f23⟩ := hJ.fact 23 129 (by decide) (by kernel_rfl)
            obtain rfl : undef = x23 := f23.symm
            obtain ⟨x24, t24, f24⟩ := hJ.fact 24 130 (by decide) (by kernel_rfl)
            obtain rfl : undef = x24 := f24.symm
            obtain ⟨x25, t25, f25⟩ := hJ.fact 25 131 (by decide) (by kernel_rfl)
            obtain rfl : undef = x25 := f25.symm
            obtain ⟨x26, t26, f26⟩ := hJ.fact 26 132 (by decide) (by kernel_rfl)
            obtain rfl : x26 = .bool false := f26
            obtain ⟨x27, t27, f27⟩ := hJ.fact 27 133 (by decide) (by kernel_rfl)
            obtain rfl : x27 = .bool false := f27
            have hfr := hJ.frame [(106, .slice (some ⟨bz, oz, none⟩) n c4), (107, .int .i64 ((i : Int))), (108, .pointer (some ⟨bz, oz + i, none⟩)), (109, .int .i64 oi), (110, .slice (some ⟨b, off, none⟩) n c3), (111, .int .i64 ((i : Int))), (112, .pointer (some ⟨b, off + i * 2, none⟩)), (113, .pointer (some ⟨b, off + i * 2, none⟩)), (114, .int .i64 ai), (115, .int .i64 dl), (116, .int .i64 (ai + dl)), (117, .bool false), (118, .bool false), (119, .int .i64 ((i : Int))), (120, .bool false), (121, .bool false), (122, undef), (123, undef), (124, undef), (125, undef), (126, undef), (127, undef), (128, undef), (129, undef), (130, undef), (131, undef), (132, .bool false), (133, .bool false)] (by simp [t0, t1, t2, t3, t4, t5, t6, t7, t8, t9, t10, t11, t12, t13, t14, t15, t16, t17, t18, t19, t20, t21, t22, t23, t24, t25, t26, t27]) (by kernel_rfl)
            have G := hJ.keep
            clear hJ t0 t1 t2 t3 t4 t5 t6 t7 t8 t9 t10 t11 t12 t13 t14 t15 t16 t17 t18 t19 t20 t21 t22 t23 t24 t25 t26 t27
            rw [hfr]
            clear hfr Tz
            simp only [List.foldl_cons, List.foldl_nil, List.setIfInBounds_toArray, List.set_cons_zero, List.set_cons_succ]
            have HR := Lib.hid (HR.out.trans G)
            clear G
            go_wp2
            go_roundw
            case rel => exact ⟨i + 1, by omega, by go_num, HR⟩
            case measure => simp [intOf]; omega
          case stepsz =>
            refine LinSteps.cons (k := 0) ?_ (LinSteps.cons (k := 1) ?_ (LinSteps.cons (k := 2) ?_ (LinSteps.cons (k := 3) ?_ (LinSteps.cons (k := 4) ?_ (LinSteps.cons (k := 5) ?_ (LinSteps.cons (k := 6) ?_ (LinSteps.cons (k := 7) ?_ (LinSteps.cons (k := 8) ?_ (LinSteps.cons (k := 9) ?_ (LinSteps.cons (k := 10) ?_ (LinSteps.cons (k := 11) ?_ (LinSteps.cons (k := 12) ?_ (LinSteps.cons (k := 13) ?_ (LinSteps.cons (k := 14) ?_ (LinSteps.cons (k := 15) ?_ (LinSteps.cons (k := 16) ?_ (LinSteps.cons (k := 17) ?_ (LinSteps.cons (k := 18) ?_ (LinSteps.cons (k := 19) ?_ (LinSteps.cons (k := 20) ?_ (LinSteps.cons (k := 21) ?_ (LinSteps.cons (k := 22) ?_ (LinSteps.cons (k := 23) ?_ (LinSteps.cons (k := 24) ?_ (LinSteps.cons (k := 25) ?_ (LinSteps.cons (k := 26) ?_ (LinSteps.cons (k := 27) ?_ (LinSteps.nil))))))))))))))))))))))))))))
            · -- 0
              refine LinStep.plain rfl ?_
              intro QQ bb T ww hn hJ hd K HK
              have s15 := (hJ.oldSlot 15 (by kernel_rfl))
              simp only [List.getElem?_toArray, List.getElem?_cons_zero, List.getElem?_cons_succ] at s15
              have G := hJ.keep
              clear hJ hd hn
              go_simp
              exact HK.out _ _ (Keep.refl _) rfl
            · -- 1
              refine LinStep.plain rfl ?_
              intro QQ bb T ww hn hJ hd K HK
              have s21 := (hJ.oldSlot 21 (by kernel_rfl))
              simp only [List.getElem?_toArray, List.getElem?_cons_zero, List.getElem?_cons_succ] at s21
              have G := hJ.keep
              clear hJ hd hn
              go_simp
              exact HK.out _ _ (Keep.refl _) rfl
            · -- 2
              refine LinStep.plain rfl ?_
              intro QQ bb T ww hn hJ hd K HK
              obtain ⟨x0, t0, f0⟩ := hJ.dep hd 0 106 (by kernel_rfl) (by kernel_rfl)
              obtain rfl : x0 = .slice (some ⟨bz, oz, none⟩) n c4 := f0
              obtain ⟨x1, t1, f1⟩ := hJ.dep hd 1 107 (by kernel_rfl) (by kernel_rfl)
              obtain rfl : x1 = .int .i64 ((i : Int)) := f1
              have G := hJ.keep
              clear hJ hd hn
              go_wp2
              exact HK.out _ _ (Keep.refl _) rfl
            · -- 3
              refine LinStep.plain rfl ?_
              intro QQ bb T ww hn hJ hd K HK
              obtain ⟨x2, t2, f2⟩ := hJ.dep hd 2 108 (by kernel_rfl) (by kernel_rfl)
              obtain rfl : x2 = .pointer (some ⟨bz, oz + i, none⟩) := f2
              have G := hJ.keep
              clear hJ hd hn
              have k0 := G.some cz
              go_simp
              exact HK.out _ _ (Keep.refl _) rfl
            · -- 4
              refine LinStep.plain rfl ?_
              intro QQ bb T ww hn hJ hd K HK
              have s14 := (hJ.oldSlot 14 (by kernel_rfl))
              simp only [List.getElem?_toArray, List.getElem?_cons_zero, List.getElem?_cons_succ] at s14
              have G := hJ.keep
              clear hJ hd hn
              go_simp
              exact HK.out _ _ (Keep.refl _) rfl
            · -- 5
              refine LinStep.plain rfl ?_
              intro QQ bb T ww hn hJ hd K HK
              have s21 := (hJ.oldSlot 21 (by kernel_rfl))
              simp only [List.getElem?_toArray, List.getElem?_cons_zero, List.getElem?_cons_succ] at s21
              have G := hJ.keep
              clear hJ hd hn
              go_simp
              exact HK.out _ _ (Keep.refl _) rfl
            · -- 6
              refine LinStep.plain rfl ?_
              intro QQ bb T ww hn hJ hd K HK
              obtain ⟨x4, t4, f4⟩ := hJ.dep hd 4 110 (by kernel_rfl) (by kernel_rfl)
              obtain rfl : x4 = .slice (some ⟨b, off, none⟩) n c3 := f4
              obtain ⟨x5, t5, f5⟩ := hJ.dep hd 5 111 (by kernel_rfl) (by kernel_rfl)
              obtain rfl : x5 = .int .i64 ((i : Int)) := f5
              have G := hJ.keep
              clear hJ hd hn
              go_wp2
              exact HK.out _ _ (Keep.refl _) rfl
            · -- 7
              refine LinStep.plain rfl ?_
              intro QQ bb T ww hn hJ hd K HK
              obtain ⟨x6, t6, f6⟩ := hJ.dep hd 6 112 (by kernel_rfl) (by kernel_rfl)
              obtain rfl : x6 = .pointer (some ⟨b, off + i * 2, none⟩) := f6
              have G := hJ.keep
              clear hJ hd hn
              go_simp
              exact HK.out _ _ (Keep.refl _) rfl
            · -- 8
              refine LinStep.plain rfl ?_
              intro QQ bb T ww hn hJ hd K HK
              obtain ⟨x7, t7, f7⟩ := hJ.dep hd 7 113 (by kernel_rfl) (by kernel_rfl)
              obtain rfl : x7 = .pointer (some ⟨b, off + i * 2, none⟩) := f7
              have G := hJ.keep
              clear hJ hd hn
              have k0 := G.some ca
              go_simp
              exact HK.out _ _ (Keep.refl _) rfl
            · -- 9
              refine LinStep.plain rfl ?_
              intro QQ bb T ww hn hJ hd K HK
              have s17 := (hJ.oldSlot 17 (by kernel_rfl))
              simp only [List.getElem?_toArray, List.getElem?_cons_zero, List.getElem?_cons_succ] at s17
              have G := hJ.keep
              clear hJ hd hn
              go_simp
              exact HK.out _ _ (Keep.refl _) rfl
            · -- 10
              refine LinStep.plain rfl ?_
              intro QQ bb T ww hn hJ hd K HK
              obtain ⟨x8, t8, f8⟩ := hJ.dep hd 8 114 (by kernel_rfl) (by kernel_rfl)
              obtain rfl : x8 = .int .i64 ai := f8
              obtain ⟨x9, t9, f9⟩ := hJ.dep hd 9 115 (by kernel_rfl) (by kernel_rfl)
              obtain rfl : x9 = .int .i64 dl := f9
              have G := hJ.keep
              clear hJ hd hn
              have e1 : IntKind.i64.wrap (ai + dl) = ai + dl := IntWalk.i64_in _ (by omega)
              go_simp
              exact HK.out _ _ (Keep.refl _) rfl
            · -- 11
              refine LinStep.plain rfl ?_
              intro QQ bb T ww hn hJ hd K HK
              obtain ⟨x3, t3, f3⟩ := hJ.dep hd 3 109 (by kernel_rfl) (by kernel_rfl)
              obtain rfl : x3 = .int .i64 oi := f3
              obtain ⟨x10, t10, f10⟩ := hJ.dep hd 10 116 (by kernel_rfl) (by kernel_rfl)
              obtain rfl : x10 = .int .i64 (ai + dl) := f10
              have G := hJ.keep
              clear hJ hd hn
              go_simp
              exact HK.out _ _ (Keep.refl _) rfl
            · -- 12
              refine LinStep.plain rfl ?_
              intro QQ bb T ww hn hJ hd K HK
              obtain ⟨x11, t11, f11⟩ := hJ.dep hd 11 117 (by kernel_rfl) (by kernel_rfl)
              obtain rfl : x11 = .bool false := f11
              have G := hJ.keep
              clear hJ hd hn
              go_simp
              exact HK.out _ _ (Keep.refl _) rfl
            · -- 13
              refine LinStep.guarded 12 118 false rfl (by kernel_rfl) (by kernel_rfl) (fun _ _ h => h) ?_
              intro QQ bb T ww hn hJ hd K HK
              have s21 := (hJ.oldSlot 21 (by kernel_rfl))
              simp only [List.getElem?_toArray, List.getElem?_cons_zero, List.getElem?_cons_succ] at s21
              have G := hJ.keep
              clear hJ hd hn
              go_simp
              exact HK.out _ _ (Keep.refl _) rfl
            · -- 14
              refine LinStep.guarded 12 118 false rfl (by kernel_rfl) (by kernel_rfl) (fun _ _ h => h) ?_
              intro QQ bb T ww hn hJ hd K HK
              obtain ⟨x13, t13, f13⟩ := hJ.dep hd 13 119 (by kernel_rfl) (by kernel_rfl)
              obtain rfl : x13 = .int .i64 ((i : Int)) := f13
              have G := hJ.keep
              clear hJ hd hn
              go_simp
              exact HK.out _ _ (Keep.refl _) (congrArg Value.bool (decide_eq_false (by omega)))
            · -- 15
              refine LinStep.guarded 12 118 false rfl (by kernel_rfl) (by kernel_rfl) (fun _ _ h => h) ?_
              intro QQ bb T ww hn hJ hd K HK
              obtain ⟨x14, t14, f14⟩ := hJ.dep hd 14 120 (by kernel_rfl) (by kernel_rfl)
              obtain rfl : x14 = .bool false := f14
              have G := hJ.keep
              clear hJ hd hn
              go_simp
              exact HK.out _ _ (Keep.refl _) rfl
            · -- 16
              exact LinStep.skipped 15 121 true rfl (by kernel_rfl) (by kernel_rfl) (fun _ _ h => h) (fun _ => rfl)
            · -- 17
              exact LinStep.skipped 15 121 true rfl (by kernel_rfl) (by kernel_rfl) (fun _ _ h => h) (fun _ => rfl)
            · -- 18
              exact LinStep.skipped 15 121 true rfl (by kernel_rfl) (by kernel_rfl) (fun _ _ h => h) (fun _ => rfl)
            · -- 19
              exact LinStep.skipped 15 121 true rfl (by kernel_rfl) (by kernel_rfl) (fun _ _ h => h) (fun _ => rfl)
            · -- 20
              exact LinStep.skipped 15 121 true rfl (by kernel_rfl) (by kernel_rfl) (fun _ _ h => h) (fun _ => rfl)
            · -- 21
              exact LinStep.skipped 15 121 true rfl (by kernel_rfl) (by kernel_rfl) (fun _ _ h => h) (fun _ => rfl)
            · -- 22
              exact LinStep.skipped 15 121 true rfl (by kernel_rfl) (by kernel_rfl) (fun _ _ h => h) (fun _ => rfl)
            · -- 23
              exact LinStep.skipped 15 121 true rfl (by kernel_rfl) (by kernel_rfl) (fun _ _ h => h) (fun _ => rfl)
            · -- 24
              exact LinStep.skipped 15 121 true rfl (by kernel_rfl) (by kernel_rfl) (fun _ _ h => h) (fun _ => rfl)
            · -- 25
              exact LinStep.skipped 15 121 true rfl (by kernel_rfl) (by kernel_rfl) (fun _ _ h => h) (fun _ => rfl)
            · -- 26
              refine LinStep.guarded 12 118 false rfl (by kernel_rfl) (by kernel_rfl) (fun _ _ h => h) ?_
              intro QQ bb T ww hn hJ hd K HK
              obtain ⟨x15, t15, f15⟩ := hJ.dep hd 15 121 (by kernel_rfl) (by kernel_rfl)
              obtain rfl : x15 = .bool false := f15
              obtain ⟨x25, t25, f25⟩ := hJ.dep hd 25 131 (by kernel_rfl) (by kernel_rfl)
              obtain rfl : undef = x25 := f25.symm
              have G := hJ.keep
              clear hJ hd hn
              go_simp
              exact HK.out _ _ (Keep.refl _) rfl
            · -- 27
              refine LinStep.plain rfl ?_
              intro QQ bb T ww hn hJ hd K HK
              obtain ⟨x12, t12, f12⟩ := hJ.dep hd 12 118 (by kernel_rfl) (by kernel_rfl)
              obtain rfl : x12 = .bool false := f12
              obtain ⟨x26, t26, f26⟩ := hJ.dep hd 26 132 (by kernel_rfl) (by kernel_rfl)
              obtain rfl : x26 = .bool false := f26
              have G := hJ.keep
              clear hJ hd hn
              go_simp
              exact HK.out _ _ (Keep.refl _) rfl
        · have hip' : (0 : Int) < (i : Int) := by omega
          obtain ⟨p, hp⟩ : ∃ p, i - 1 = p := ⟨_, rfl⟩
          have hpi : (i : Int) - 1 = (p : Int) := by omega
          have hpn : (p : Int) < (n : Int) := by omega
          have cp := HR.out.some (HZF2.out p (by omega))
          have hor := HOR.out p (by rw [HL.out]; omega)
          rw [show p + 1 = i by omega, HOI.out] at hor
          obtain ⟨op, hop⟩ : ∃ x, zs.getD p 0 = x := ⟨_, rfl⟩
          rw [hop] at cp hor
          have hlt3 : ¬ oi < op := by omega
          clear hop hp
          go_upto_region 14 with fail
          refine region_lin (W0 := wr) (listF [fun v ww => v = .slice (some ⟨bz, oz, none⟩) n c4, fun v ww => v = .int .i64 ((i : Int)), fun v ww => v = .pointer (some ⟨bz, oz + i, none⟩), fun v ww => v = .int .i64 oi, fun v ww => v = .slice (some ⟨b, off, none⟩) n c3, fun v ww => v = .int .i64 ((i : Int)), fun v ww => v = .pointer (some ⟨b, off + i * 2, none⟩), fun v ww => v = .pointer (some ⟨b, off + i * 2, none⟩), fun v ww => v = .int .i64 ai, fun v ww => v = .int .i64 dl, fun v ww => v = .int .i64 (ai + dl), fun v ww => v = .bool false, fun v ww => v = .bool false, fun v ww => v = .int .i64 ((i : Int)), fun v ww => v = .bool true, fun v ww => v = .bool true, fun v ww => v = .slice (some ⟨bz, oz, none⟩) n c4, fun v ww => v = .int .i64 ((i : Int)), fun v ww => v = .pointer (some ⟨bz, oz + i, none⟩), fun v ww => v = .int .i64 oi, fun v ww => v = .slice (some ⟨bz, oz, none⟩) n c4, fun v ww => v = .int .i64 ((i : Int)), fun v ww => v = .int .i64 ((p : Int)), fun v ww => v = .pointer (some ⟨bz, oz + p, none⟩), fun v ww => v = .int .i64 op, fun v ww => v = .bool false, fun v ww => v = .bool false, fun v ww => v = .bool false]) (listF_stable _ ⟨fun _ _ _ _ h => h, fun _ _ _ _ h => h, fun _ _ _ _ h => h, fun _ _ _ _ h => h, fun _ _ _ _ h => h, fun _ _ _ _ h => h, fun _ _ _ _ h => h, fun _ _ _ _ h => h, fun _ _ _ _ h => h, fun _ _ _ _ h => h, fun _ _ _ _ h => h, fun _ _ _ _ h => h, fun _ _ _ _ h => h, fun _ _ _ _ h => h, fun _ _ _ _ h => h, fun _ _ _ _ h => h, fun _ _ _ _ h => h, fun _ _ _ _ h => h, fun _ _ _ _ h => h, fun _ _ _ _ h => h, fun _ _ _ _ h => h, fun _ _ _ _ h => h, fun _ _ _ _ h => h, fun _ _ _ _ h => h, fun _ _ _ _ h => h, fun _ _ _ _ h => h, fun _ _ _ _ h => h, fun _ _ _ _ h => h, trivial⟩) (by kernel_rfl) (by kernel_rfl) (by kernel_rfl) (by kernel_rfl) (Keep.refl _) ?donep ?stepsp
          case donep =>
            intro Tp wzp hJ
            obtain ⟨x0, t0, f0⟩ := hJ.fact 0 106 (by decide) (by kernel_rfl)
            obtain rfl : x0 = .slice (some ⟨bz, oz, none⟩) n c4 := f0
            obtain ⟨x1, t1, f1⟩ := hJ.fact 1 107 (by decide) (by kernel_rfl)
            obtain rfl : x1 = .int .i64 ((i : Int)) := f1
            obtain ⟨x2, t2, f2⟩ := hJ.fact 2 108 (by decide) (by kernel_rfl)
            obtain rfl : x2 = .pointer (some ⟨bz, oz + i, none⟩) := f2
            obtain ⟨x3, t3, f3⟩ := hJ.fact 3 109 (by decide) (by kernel_rfl)
            obtain rfl : x3 = .int .i64 oi := f3
            obtain ⟨x4, t4, f4⟩ := hJ.fact 4 110 (by decide) (by kernel_rfl)
            obtain rfl : x4 = .slice (some ⟨b, off, none⟩) n c3 := f4
            obtain ⟨x5, t5, f5⟩ := hJ.fact 5 111 (by decide) (by kernel_rfl)
            obtain rfl : x5 = .int .i64 ((i : Int)) := f5
            obtain ⟨x6, t6, f6⟩ := hJ.fact 6 112 (by decide) (by kernel_rfl)
            obtain rfl : x6 = .pointer (some ⟨b, off + i * 2, none⟩) := f6
            obtain ⟨x7, t7, f7⟩ := hJ.fact 7 113 (by decide) (by kernel_rfl)
            obtain rfl : x7 = .pointer (some ⟨b, off + i * 2, none⟩) := f7
            obtain ⟨x8, t8, f8⟩ := hJ.fact 8 114 (by decide) (by kernel_rfl)
            obtain rfl : x8 = .int .i64 ai := f8
            obtain ⟨x9, t9, f9⟩ := hJ.fact 9 115 (by decide) (by kernel_rfl)
            obtain rfl : x9 = .int .i64 dl := f9
            obtain ⟨x10, t10, f10⟩ := hJ.fact 10 116 (by decide) (by kernel_rfl)
            obtain rfl : x10 = .int .i64 (ai + dl) := f10
            obtain ⟨x11, t11, f11⟩ := hJ.fact 11 117 (by decide) (by kernel_rfl)
            obtain rfl : x11 = .bool false := f11
            obtain ⟨x12, t12, f12⟩ := hJ.fact 12 118 (by decide) (by kernel_rfl)
            obtain rfl : x12 = .bool false := f12
            obtain ⟨x13, t13, f13⟩ := hJ.fact 13 119 (by decide) (by kernel_rfl)
            obtain rfl : x13 = .int .i64 ((i : Int)) := f13
            obtain ⟨x14, t14, f14⟩ := hJ.fact 14 120 (by decide) (by kernel_rfl)
            obtain rfl : x14 = .bool true := f14
            obtain ⟨x15, t15, f15⟩ := hJ.fact 15 121 (by decide) (by kernel_rfl)
            obtain rfl : x15 = .bool true := f15
            obtain ⟨x16, t16, f16⟩ := hJ.fact 16 122 (by decide) (by kernel_rfl)
            obtain rfl : x16 = .slice (some ⟨bz, oz, none⟩) n c4 := f16
            obtain ⟨x17, t17, f17⟩ := hJ.fact 17 123 (by decide) (by kernel_rfl)
            obtain rfl : x17 = .int .i64 ((i : Int)) := f17
            obtain ⟨x18, t18, f18⟩ := hJ.fact 18 124 (by decide) (by kernel_rfl)
            obtain rfl : x18 = .pointer (some ⟨bz, oz + i, none⟩) := f18
            obtain ⟨x19, t19, f19⟩ := hJ.fact 19 125 (by decide) (by kernel_rfl)
            obtain rfl : x19 = .int .i64 oi := f19
            obtain ⟨x20, t20, f20⟩ := hJ.fact 20 126 (by decide) (by kernel_rfl)
            obtain rfl : x20 = .slice (some ⟨bz, oz, none⟩) n c4 := f20
            obtain ⟨x21, t21, f21⟩ := hJ.fact 21 127 (by decide) (by kernel_rfl)
            obtain rfl : x21 = .int .i64 ((i : Int)) := f21
            obtain ⟨x22, t22, f22⟩ := hJ.fact 22 128 (by decide) (by kernel_rfl)
            obtain rfl : x22 = .int .i64 ((p : Int)) := f22
            obtain ⟨x23, t23, f23⟩ := hJ.fact 23 129 (by decide) (by kernel_rfl)
            obtain rfl : x23 = .pointer (some ⟨bz, oz + p, none⟩) := f23
            obtain ⟨x24, t24, f24⟩ := hJ.fact 24 130 (by decide) (by kernel_rfl)
            obtain rfl : x24 = .int .i64 op := f24
            obtain ⟨x25, t25, f25⟩ := hJ.fact 25 131 (by decide) (by kernel_rfl)
            obtain rfl : x25 = .bool false := f25
            obtain ⟨x26, t26, f26⟩ := hJ.fact 26 132 (by decide) (by kernel_rfl)
            obtain rfl : x26 = .bool false := f26
            obtain ⟨x27, t27, f27⟩ := hJ.fact 27 133 (by decide) (by kernel_rfl)
            obtain rfl : x27 = .bool false := f27
            have hfr := hJ.frame [(106, .slice (some ⟨bz, oz, none⟩) n c4), (107, .int .i64 ((i : Int))), (108, .pointer (some ⟨bz, oz + i, none⟩)), (109, .int .i64 oi), (110, .slice (some ⟨b, off, none⟩) n c3), (111, .int .i64 ((i : Int))), (112, .pointer (some ⟨b, off + i * 2, none⟩)), (113, .pointer (some ⟨b, off + i * 2, none⟩)), (114, .int .i64 ai), (115, .int .i64 dl), (116, .int .i64 (ai + dl)), (117, .bool false), (118, .bool false), (119, .int .i64 ((i : Int))), (120, .bool true), (121, .bool true), (122, .slice (some ⟨bz, oz, none⟩) n c4), (123, .int .i64 ((i : Int))), (124, .pointer (some ⟨bz, oz + i, none⟩)), (125, .int .i64 oi), (126, .slice (some ⟨bz, oz, none⟩) n c4), (127, .int .i64 ((i : Int))), (128, .int .i64 ((p : Int))), (129, .pointer (some ⟨bz, oz + p, none⟩)), (130, .int .i64 op), (131, .bool false), (132, .bool false), (133, .bool false)] (by simp [t0, t1, t2, t3, t4, t5, t6, t7, t8, t9, t10, t11, t12, t13, t14, t15, t16, t17, t18, t19, t20, t21, t22, t23, t24, t25, t26, t27]) (by kernel_rfl)
            have G := hJ.keep
            clear hJ t0 t1 t2 t3 t4 t5 t6 t7 t8 t9 t10 t11 t12 t13 t14 t15 t16 t17 t18 t19 t20 t21 t22 t23 t24 t25 t26 t27
            rw [hfr]
            clear hfr Tp
            simp only [List.foldl_cons, List.foldl_nil, List.setIfInBounds_toArray, List.set_cons_zero, List.set_cons_succ]
            have HR := Lib.hid (HR.out.trans G)
            clear G
            go_wp2
            go_roundw
            case rel => exact ⟨i + 1, by omega, by go_num, HR⟩
            case measure => simp [intOf]; omega
          case stepsp =>
            refine LinSteps.cons (k := 0) ?_ (LinSteps.cons (k := 1) ?_ (LinSteps.cons (k := 2) ?_ (LinSteps.cons (k := 3) ?_ (LinSteps.cons (k := 4) ?_ (LinSteps.cons (k := 5) ?_ (LinSteps.cons (k := 6) ?_ (LinSteps.cons (k := 7) ?_ (LinSteps.cons (k := 8) ?_ (LinSteps.cons (k := 9) ?_ (LinSteps.cons (k := 10) ?_ (LinSteps.cons (k := 11) ?_ (LinSteps.cons (k := 12) ?_ (LinSteps.cons (k := 13) ?_ (LinSteps.cons (k := 14) ?_ (LinSteps.cons (k := 15) ?_ (LinSteps.cons (k := 16) ?_ (LinSteps.cons (k := 17) ?_ (LinSteps.cons (k := 18) ?_ (LinSteps.cons (k := 19) ?_ (LinSteps.cons (k := 20) ?_ (LinSteps.cons (k := 21) ?_ (LinSteps.cons (k := 22) ?_ (LinSteps.cons (k := 23) ?_ (LinSteps.cons (k := 24) ?_ (LinSteps.cons (k := 25) ?_ (LinSteps.cons (k := 26) ?_ (LinSteps.cons (k := 27) ?_ (LinSteps.nil))))))))))))))))))))))))))))
            · -- 0
              refine LinStep.plain rfl ?_
              intro QQ bb T ww hn hJ hd K HK
              have s15 := (hJ.oldSlot 15 (by kernel_rfl))
              simp only [List.getElem?_toArray, List.getElem?_cons_zero, List.getElem?_cons_succ] at s15
              have G := hJ.keep
              clear hJ hd hn
              go_simp
              exact HK.out _ _ (Keep.refl _) rfl
            · -- 1
              refine LinStep.plain rfl ?_
              intro QQ bb T ww hn hJ hd K HK
              have s21 := (hJ.oldSlot 21 (by kernel_rfl))
              simp only [List.getElem?_toArray, List.getElem?_cons_zero, List.getElem?_cons_succ] at s21
              have G := hJ.keep
              clear hJ hd hn
              go_simp
              exact HK.out _ _ (Keep.refl _) rfl
            · -- 2
              refine LinStep.plain rfl ?_
              intro QQ bb T ww hn hJ hd K HK
              obtain ⟨x0, t0, f0⟩ := hJ.dep hd 0 106 (by kernel_rfl) (by kernel_rfl)
              obtain rfl : x0 = .slice (some ⟨bz, oz, none⟩) n c4 := f0
              obtain ⟨x1, t1, f1⟩ := hJ.dep hd 1 107 (by kernel_rfl) (by kernel_rfl)
              obtain rfl : x1 = .int .i64 ((i : Int)) := f1
              have G := hJ.keep
              clear hJ hd hn
              go_wp2
              exact HK.out _ _ (Keep.refl _) rfl
            · -- 3
              refine LinStep.plain rfl ?_
              intro QQ bb T ww hn hJ hd K HK
              obtain ⟨x2, t2, f2⟩ := hJ.dep hd 2 108 (by kernel_rfl) (by kernel_rfl)
              obtain rfl : x2 = .pointer (some ⟨bz, oz + i, none⟩) := f2
              have G := hJ.keep
              clear hJ hd hn
              have k0 := G.some cz
              go_simp
              exact HK.out _ _ (Keep.refl _) rfl
            · -- 4
              refine LinStep.plain rfl ?_
              intro QQ bb T ww hn hJ hd K HK
              have s14 := (hJ.oldSlot 14 (by kernel_rfl))
              simp only [List.getElem?_toArray, List.getElem?_cons_zero, List.getElem?_cons_succ] at s14
              have G := hJ.keep
              clear hJ hd hn
              go_simp
              exact HK.out _ _ (Keep.refl _) rfl
            · -- 5
              refine LinStep.plain rfl ?_
              intro QQ bb T ww hn hJ hd K HK
              have s21 := (hJ.oldSlot 21 (by kernel_rfl))
              simp only [List.getElem?_toArray, List.getElem?_cons_zero, List.getElem?_cons_succ] at s21
              have G := hJ.keep
              clear hJ hd hn
              go_simp
              exact HK.out _ _ (Keep.refl _) rfl
            · -- 6
              refine LinStep.plain rfl ?_
              intro QQ bb T ww hn hJ hd K HK
              obtain ⟨x4, t4, f4⟩ := hJ.dep hd 4 110 (by kernel_rfl) (by kernel_rfl)
              obtain rfl : x4 = .slice (some ⟨b, off, none⟩) n c3 := f4
              obtain ⟨x5, t5, f5⟩ := hJ.dep hd 5 111 (by kernel_rfl) (by kernel_rfl)
              obtain rfl : x5 = .int .i64 ((i : Int)) := f5
              have G := hJ.keep
              clear hJ hd hn
              go_wp2
              exact HK.out _ _ (Keep.refl _) rfl
            · -- 7
              refine LinStep.plain rfl ?_
              intro QQ bb T ww hn hJ hd K HK
              obtain ⟨x6, t6, f6⟩ := hJ.dep hd 6 112 (by kernel_rfl) (by kernel_rfl)
              obtain rfl : x6 = .pointer (some ⟨b, off + i * 2, none⟩) := f6
              have G := hJ.keep
              clear hJ hd hn
              go_simp
              exact HK.out _ _ (Keep.refl _) rfl
            · -- 8
              refine LinStep.plain rfl ?_
              intro QQ bb T ww hn hJ hd K HK
              obtain ⟨x7, t7, f7⟩ := hJ.dep hd 7 113 (by kernel_rfl) (by kernel_rfl)
              obtain rfl : x7 = .pointer (some ⟨b, off + i * 2, none⟩) := f7
              have G := hJ.keep
              clear hJ hd hn
              have k0 := G.some ca
              go_simp
              exact HK.out _ _ (Keep.refl _) rfl
            · -- 9
              refine LinStep.plain rfl ?_
              intro QQ bb T ww hn hJ hd K HK
              have s17 := (hJ.oldSlot 17 (by kernel_rfl))
              simp only [List.getElem?_toArray, List.getElem?_cons_zero, List.getElem?_cons_succ] at s17
              have G := hJ.keep
              clear hJ hd hn
              go_simp
              exact HK.out _ _ (Keep.refl _) rfl
            · -- 10
              refine LinStep.plain rfl ?_
              intro QQ bb T ww hn hJ hd K HK
              obtain ⟨x8, t8, f8⟩ := hJ.dep hd 8 114 (by kernel_rfl) (by kernel_rfl)
              obtain rfl : x8 = .int .i64 ai := f8
              obtain ⟨x9, t9, f9⟩ := hJ.dep hd 9 115 (by kernel_rfl) (by kernel_rfl)
              obtain rfl : x9 = .int .i64 dl := f9
              have G := hJ.keep
              clear hJ hd hn
              have e1 : IntKind.i64.wrap (ai + dl) = ai + dl := IntWalk.i64_in _ (by omega)
              go_simp
              exact HK.out _ _ (Keep.refl _) rfl
            · -- 11
              refine LinStep.plain rfl ?_
              intro QQ bb T ww hn hJ hd K HK
              obtain ⟨x3, t3, f3⟩ := hJ.dep hd 3 109 (by kernel_rfl) (by kernel_rfl)
              obtain rfl : x3 = .int .i64 oi := f3
              obtain ⟨x10, t10, f10⟩ := hJ.dep hd 10 116 (by kernel_rfl) (by kernel_rfl)
              obtain rfl : x10 = .int .i64 (ai + dl) := f10
              have G := hJ.keep
              clear hJ hd hn
              go_simp
              exact HK.out _ _ (Keep.refl _) rfl
            · -- 12
              refine LinStep.plain rfl ?_
              intro QQ bb T ww hn hJ hd K HK
              obtain ⟨x11, t11, f11⟩ := hJ.dep hd 11 117 (by kernel_rfl) (by kernel_rfl)
              obtain rfl : x11 = .bool false := f11
              have G := hJ.keep
              clear hJ hd hn
              go_simp
              exact HK.out _ _ (Keep.refl _) rfl
            · -- 13
              refine LinStep.guarded 12 118 false rfl (by kernel_rfl) (by kernel_rfl) (fun _ _ h => h) ?_
              intro QQ bb T ww hn hJ hd K HK
              have s21 := (hJ.oldSlot 21 (by kernel_rfl))
              simp only [List.getElem?_toArray, List.getElem?_cons_zero, List.getElem?_cons_succ] at s21
              have G := hJ.keep
              clear hJ hd hn
              go_simp
              exact HK.out _ _ (Keep.refl _) rfl
            · -- 14
              refine LinStep.guarded 12 118 false rfl (by kernel_rfl) (by kernel_rfl) (fun _ _ h => h) ?_
              intro QQ bb T ww hn hJ hd K HK
              obtain ⟨x13, t13, f13⟩ := hJ.dep hd 13 119 (by kernel_rfl) (by kernel_rfl)
              obtain rfl : x13 = .int .i64 ((i : Int)) := f13
              have G := hJ.keep
              clear hJ hd hn
              go_simp
              exact HK.out _ _ (Keep.refl _) (rfl)
            · -- 15
              refine LinStep.guarded 12 118 false rfl (by kernel_rfl) (by kernel_rfl) (fun _ _ h => h) ?_
              intro QQ bb T ww hn hJ hd K HK
              obtain ⟨x14, t14, f14⟩ := hJ.dep hd 14 120 (by kernel_rfl) (by kernel_rfl)
              obtain rfl : x14 = .bool true := f14
              have G := hJ.keep
              clear hJ hd hn
              go_simp
              exact HK.out _ _ (Keep.refl _) rfl
            · -- 16
              refine LinStep.guarded 15 121 true rfl (by kernel_rfl) (by kernel_rfl) (fun _ _ h => h) ?_
              intro QQ bb T ww hn hJ hd K HK
              have s15 := (hJ.oldSlot 15 (by kernel_rfl))
              simp only [List.getElem?_toArray, List.getElem?_cons_zero, List.getElem?_cons_succ] at s15
              have G := hJ.keep
              clear hJ hd hn
              go_simp
              exact HK.out _ _ (Keep.refl _) rfl
            · -- 17
              refine LinStep.guarded 15 121 true rfl (by kernel_rfl) (by kernel_rfl) (fun _ _ h => h) ?_
              intro QQ bb T ww hn hJ hd K HK
              have s21 := (hJ.oldSlot 21 (by kernel_rfl))
              simp only [List.getElem?_toArray, List.getElem?_cons_zero, List.getElem?_cons_succ] at s21
              have G := hJ.keep
              clear hJ hd hn
              go_simp
              exact HK.out _ _ (Keep.refl _) rfl
            · -- 18
              refine LinStep.guarded 15 121 true rfl (by kernel_rfl) (by kernel_rfl) (fun _ _ h => h) ?_
              intro QQ bb T ww hn hJ hd K HK
              obtain ⟨x16, t16, f16⟩ := hJ.dep hd 16 122 (by kernel_rfl) (by kernel_rfl)
              obtain rfl : x16 = .slice (some ⟨bz, oz, none⟩) n c4 := f16
              obtain ⟨x17, t17, f17⟩ := hJ.dep hd 17 123 (by kernel_rfl) (by kernel_rfl)
              obtain rfl : x17 = .int .i64 ((i : Int)) := f17
              have G := hJ.keep
              clear hJ hd hn
              go_wp2
              exact HK.out _ _ (Keep.refl _) rfl
            · -- 19
              refine LinStep.guarded 15 121 true rfl (by kernel_rfl) (by kernel_rfl) (fun _ _ h => h) ?_
              intro QQ bb T ww hn hJ hd K HK
              obtain ⟨x18, t18, f18⟩ := hJ.dep hd 18 124 (by kernel_rfl) (by kernel_rfl)
              obtain rfl : x18 = .pointer (some ⟨bz, oz + i, none⟩) := f18
              have G := hJ.keep
              clear hJ hd hn
              have k0 := G.some cz
              go_simp
              exact HK.out _ _ (Keep.refl _) rfl
            · -- 20
              refine LinStep.guarded 15 121 true rfl (by kernel_rfl) (by kernel_rfl) (fun _ _ h => h) ?_
              intro QQ bb T ww hn hJ hd K HK
              have s15 := (hJ.oldSlot 15 (by kernel_rfl))
              simp only [List.getElem?_toArray, List.getElem?_cons_zero, List.getElem?_cons_succ] at s15
              have G := hJ.keep
              clear hJ hd hn
              go_simp
              exact HK.out _ _ (Keep.refl _) rfl
            · -- 21
              refine LinStep.guarded 15 121 true rfl (by kernel_rfl) (by kernel_rfl) (fun _ _ h => h) ?_
              intro QQ bb T ww hn hJ hd K HK
              have s21 := (hJ.oldSlot 21 (by kernel_rfl))
              simp only [List.getElem?_toArray, List.getElem?_cons_zero, List.getElem?_cons_succ] at s21
              have G := hJ.keep
              clear hJ hd hn
              go_simp
              exact HK.out _ _ (Keep.refl _) rfl
            · -- 22
              refine LinStep.guarded 15 121 true rfl (by kernel_rfl) (by kernel_rfl) (fun _ _ h => h) ?_
              intro QQ bb T ww hn hJ hd K HK
              obtain ⟨x21, t21, f21⟩ := hJ.dep hd 21 127 (by kernel_rfl) (by kernel_rfl)
              obtain rfl : x21 = .int .i64 ((i : Int)) := f21
              have G := hJ.keep
              clear hJ hd hn
              have e1 : IntKind.i64.wrap (p : Int) = (p : Int) := IntWalk.i64_in _ (by omega)
              go_simp
              exact HK.out _ _ (Keep.refl _) rfl
            · -- 23
              refine LinStep.guarded 15 121 true rfl (by kernel_rfl) (by kernel_rfl) (fun _ _ h => h) ?_
              intro QQ bb T ww hn hJ hd K HK
              obtain ⟨x20, t20, f20⟩ := hJ.dep hd 20 126 (by kernel_rfl) (by kernel_rfl)
              obtain rfl : x20 = .slice (some ⟨bz, oz, none⟩) n c4 := f20
              obtain ⟨x22, t22, f22⟩ := hJ.dep hd 22 128 (by kernel_rfl) (by kernel_rfl)
              obtain rfl : x22 = .int .i64 ((p : Int)) := f22
              have G := hJ.keep
              clear hJ hd hn
              go_wp2
              exact HK.out _ _ (Keep.refl _) rfl
            · -- 24
              refine LinStep.guarded 15 121 true rfl (by kernel_rfl) (by kernel_rfl) (fun _ _ h => h) ?_
              intro QQ bb T ww hn hJ hd K HK
              obtain ⟨x23, t23, f23⟩ := hJ.dep hd 23 129 (by kernel_rfl) (by kernel_rfl)
              obtain rfl : x23 = .pointer (some ⟨bz, oz + p, none⟩) := f23
              have G := hJ.keep
              clear hJ hd hn
              have k0 := G.some cp
              go_simp
              exact HK.out _ _ (Keep.refl _) rfl
            · -- 25
              refine LinStep.guarded 15 121 true rfl (by kernel_rfl) (by kernel_rfl) (fun _ _ h => h) ?_
              intro QQ bb T ww hn hJ hd K HK
              obtain ⟨x19, t19, f19⟩ := hJ.dep hd 19 125 (by kernel_rfl) (by kernel_rfl)
              obtain rfl : x19 = .int .i64 oi := f19
              obtain ⟨x24, t24, f24⟩ := hJ.dep hd 24 130 (by kernel_rfl) (by kernel_rfl)
              obtain rfl : x24 = .int .i64 op := f24
              have G := hJ.keep
              clear hJ hd hn
              go_simp
              exact HK.out _ _ (Keep.refl _) rfl
            · -- 26
              refine LinStep.guarded 12 118 false rfl (by kernel_rfl) (by kernel_rfl) (fun _ _ h => h) ?_
              intro QQ bb T ww hn hJ hd K HK
              obtain ⟨x15, t15, f15⟩ := hJ.dep hd 15 121 (by kernel_rfl) (by kernel_rfl)
              obtain rfl : x15 = .bool true := f15
              obtain ⟨x25, t25, f25⟩ := hJ.dep hd 25 131 (by kernel_rfl) (by kernel_rfl)
              obtain rfl : x25 = .bool false := f25
              have G := hJ.keep
              clear hJ hd hn
              go_simp
              exact HK.out _ _ (Keep.refl _) rfl
            · -- 27
              refine LinStep.plain rfl ?_
              intro QQ bb T ww hn hJ hd K HK
              obtain ⟨x12, t12, f12⟩ := hJ.dep hd 12 118 (by kernel_rfl) (by kernel_rfl)
              obtain rfl : x12 = .bool false := f12
              obtain ⟨x26, t26, f26⟩ := hJ.dep hd 26 132 (by kernel_rfl) (by kernel_rfl)
              obtain rfl : x26 = .bool false := f26
              have G := hJ.keep
              clear hJ hd hn
              go_simp
              exact HK.out _ _ (Keep.refl _) rfl
      · obtain rfl : i = n := by omega
        go_wp2
        go_ret
        exact ⟨rfl, KK.out.trans HR.out⟩

theorem lawHolds_any (Dv : Value) (B R : Int) (gs ss : List Int) (bu ra mo L : Int) (w : World) (h : DraftAt w Dv B R gs ss) (hbu : 0 ≤ bu ∧ bu ≤ 65535) (hra : 0 ≤ ra ∧ ra ≤ 4294967295) (hmo : 0 ≤ mo ∧ mo ≤ 4294967295) (hL : 0 ≤ L ∧ L ≤ 65535) : Calls Try.prog 9 #[Dv, .int .u16 bu, .int .u32 ra, .int .u32 mo, .int .u16 L] w (Res (.bool true) w) := by
  have h' := h
  obtain ⟨⟨g, s, rfl, h1, h2⟩, h3, h4⟩ := h
  obtain ⟨ga, gl, gc, rfl, -⟩ := h1.form
  obtain ⟨sa, sl, sc, rfl, -⟩ := h2.form
  exact holds_walk B R ga sa gl gc sl sc gs ss bu ra mo L w (Lib.hid h') _ _ (Lib.hid rfl) (Lib.hid rfl) (Lib.hid (okBk_of B R)) _ (Lib.hid rfl) (Lib.hid (okT_traceD h1.1 h2.1 (by omega))) (by rw [traceD_len]; omega) hbu hra hmo hL

end Go.Proofs.Ytmamadgikjkjdaa
