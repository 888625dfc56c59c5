/- CurveWaits' walk: at most Backlog octets of a conforming trace are waiting, if the service has been busy since an earlier arrival. -/
import Derived.Test.YtmamadgikjkjdaaLawTight
import Derived.Test.YtmamadgikjkjdaaMergeM
import Derived.Test.YtmamadgikjkjdaaLin
namespace Go.Proofs.Ytmamadgikjkjdaa
open Go Go.RowKit

theorem okT_confL {B R : Int} {l : List (Int × Int)} (h : okT l = true) : okT (confL B R l) = true := okT_sub h (confL_sublist B R l)
theorem confL_gap {B R : Int} {l : List (Int × Int)} {i j : Nat} (hj : j < (confL B R l).length) (hij : i ≤ j) : gapB B R (atL (confL B R l)) (szL (confL B R l)) i j = true := by
  have h := confL_fits B R l
  unfold fitsL at h
  exact fitsB_iff.1 h j hj i hij
theorem waits_math {X Y S L sm ai aj u : Int} (hS : Y ≤ S) (hY : 0 ≤ Y) (hu : aj ≤ u) (_ha : ai ≤ aj) (hg : (sm - X) * 1048576 ≤ Y * (aj - ai)) : sm * 1048576 - S * max 0 (u - ai - L) ≤ (X + ceilD (Y * L) 1048576) * 1048576 := by
  have h1 := le_ceilD (n := Y * L) (d := 1048576) (by omega)
  have h2 : Y * (aj - ai - L) ≤ S * max 0 (u - ai - L) := by
    rcases Int.le_total 0 (u - ai - L) with h | h
    · rw [show max 0 (u - ai - L) = u - ai - L by omega]
      exact Int.le_trans (Int.mul_le_mul_of_nonneg_left (by omega) hY) (Int.mul_le_mul_of_nonneg_right hS h)
    · rw [show max 0 (u - ai - L) = 0 by omega, Int.mul_zero]
      have := Int.mul_le_mul_of_nonneg_left (show aj - ai - L ≤ 0 by omega) hY
      omega
  have e : Y * (aj - ai - L) = Y * (aj - ai) - Y * L := Int.mul_sub ..
  omega
theorem backlog_one {X Y S L : Int} (hb : okBk X Y = true) (hs : okSv S L = true) (h : Y ≤ S) : backlogR X Y S L = (X + ceilD (Y * L) 1048576, 0) := by
  unfold backlogR
  rw [if_pos (flow_one hb hs h)]

set_option maxRecDepth 100000 in
set_option maxHeartbeats 8000000 in
theorem waits_walk (B R : Int) (ga sa : Option Addr) (gl gc sl sc : Nat) (gs ss : List Int) (m L t : Int) (w : World) (hD : Hid (DraftAt w (.agg #[.int .u32 B, .int .u32 R, .slice ga gl gc, .slice sa sl sc]) B R gs ss)) (X Y : Int) (HX : Hid (bOf B = X)) (HY : Hid (rOf R = Y)) (Hb : Hid (okBk X Y = true)) (l : List (Int × Int)) (Hl : Hid (traceD gs ss (min ss.length 30) = l)) (Hok : Hid (okT l = true)) (hlen30 : l.length ≤ 30) (hm : 0 ≤ m ∧ m ≤ 4294967295) (hL : 0 ≤ L ∧ L ≤ 65535) (ht : 0 ≤ t ∧ t ≤ 4294967295) :
    Calls Try.prog 12 #[.agg #[.int .u32 B, .int .u32 R, .slice ga gl gc, .slice sa sl sc], .int .u32 m, .int .u16 L, .int .u32 t] w (Res (.bool true) w) := by
  have bk := okBk_iff.1 Hb.out
  have d0 : (w.alloc (.cells #[.int .u32 B, .int .u32 R, .slice ga gl gc, .slice sa sl sc] 25)).cell? ⟨w.heap.size, 0, none⟩ = some (.int .u32 B) := by simp [go_sem]
  have d1 : (w.alloc (.cells #[.int .u32 B, .int .u32 R, .slice ga gl gc, .slice sa sl sc] 25)).cell? ⟨w.heap.size, 1, none⟩ = some (.int .u32 R) := by simp [go_sem]
  have d2 : (w.alloc (.cells #[.int .u32 B, .int .u32 R, .slice ga gl gc, .slice sa sl sc] 25)).cell? ⟨w.heap.size, 2, none⟩ = some (.slice ga gl gc) := by simp [go_sem]
  have d3 : (w.alloc (.cells #[.int .u32 B, .int .u32 R, .slice ga gl gc, .slice sa sl sc] 25)).cell? ⟨w.heap.size, 3, none⟩ = some (.slice sa sl sc) := by simp [go_sem]
  have KK := Lib.hid (Keep.alloc (Keep.refl w) (.cells #[.int .u32 B, .int .u32 R, .slice ga gl gc, .slice sa sl sc] 25))
  have HD := Lib.hid (hD.out.keep KK.out)
  clear hD
  obtain ⟨S, hS⟩ : ∃ S, min 2097152 (Y + m % 262144) = S := ⟨_, rfl⟩
  have bS : 1 ≤ S ∧ S ≤ 2097152 ∧ Y ≤ S := by omega
  have HSv : Hid (okSv S L = true) := Lib.hid (okSv_of (by omega))
  obtain ⟨nB, hnB⟩ : ∃ n, X + ceilD (Y * L) 1048576 = n := ⟨_, rfl⟩
  have H1 : Hid (backlogR X Y S L = (nB, 0)) := Lib.hid (by rw [backlog_one Hb.out HSv.out bS.2.2, hnB])
  have bYL := prod_bd (show 0 ≤ Y by omega) (show Y ≤ 2097152 by omega) hL.1 hL.2
  have bnB : 0 ≤ nB ∧ nB ≤ 1048576 + 2097152 * 65535 := by
    have h1 := ceilD_nonneg (n := Y * L) (d := 1048576) (by omega) bYL.1
    have h2 : ceilD (Y * L) 1048576 ≤ Y * L := ceilD_le (by omega) (by omega)
    omega
  have HNB := Lib.hid hnB
  clear hnB bYL
  go_enter Try.func12, Try.ntmps12
  go_upto_region 3 with (go_at_call 32; ((with_reducible refine (works4_yes _).mono ?_); rintro _ w1 ⟨rfl, k1⟩; have d0 := k1.some d0; have d1 := k1.some d1; have d2 := k1.some d2; have d3 := k1.some d3; have HD := Lib.hid (HD.out.keep k1); have KK := Lib.hid (KK.out.trans k1)))
  refine region_inv (J := fun bb aa wx => ∃ v9 v10 v21 v22 v23 v24 : Value, aa = ⟨#[Value.agg #[Value.int IntKind.u32 B, Value.int IntKind.u32 R, Value.slice ga gl gc, Value.slice sa sl sc], Value.int IntKind.u32 m, Value.int IntKind.u16 L, Value.int IntKind.u32 t, Value.pointer (some { block := w.heap.size, off := 0 }), undef, undef, undef, Value.bool false, v9, v10, undef, undef, undef, undef, undef, undef, undef, undef, Value.bool true, Value.bool false, v21, v22, v23, v24, undef, undef, undef, undef, undef, undef, undef, undef, undef, undef, undef, undef, undef, undef, undef, undef, undef, undef, undef, undef, undef, undef, undef, undef, undef, undef, undef, undef, undef, undef, undef, undef, undef, undef, undef, undef, undef, undef, undef, undef, undef, undef, undef, undef, undef, undef, undef, undef, undef, undef, undef, undef, undef, undef, undef, undef, undef, undef, undef, undef, undef, undef, undef, undef, undef, undef, undef, undef], []⟩ ∧ Keep w1 wx ∧ (bb 0 → v21 = .agg #[.int .u32 B, .int .u32 R, .slice ga gl gc, .slice sa sl sc]) ∧ (bb 1 → v22 = .agg #[.int .i64 X, .int .i64 Y]) ∧ (bb 2 → v23 = .agg #[.int .u32 B, .int .u32 R, .slice ga gl gc, .slice sa sl sc]) ∧ (bb 3 → RowAt wx v24 (confL X Y l)) ∧ (bb 4 → VarAt w1 wx v9 (bb 5) (.int .i64 X) (.int .i64 Y)) ∧ (bb 5 → bb 4) ∧ (bb 6 → bb 3 ∧ v10 = v24) ∧ (bb 4 → bb 3 → Off v9 v24)) (by kernel_rfl) (by kernel_rfl) ?donex ?startx ?stepsx
  case donex =>
    rintro bb aa wx hb ⟨v9, v10, v21, v22, v23, v24, rfl, G, f0, f1, f2, f3, f4, f5, f6, o4_3⟩
    replace hb : ∀ k, k < 7 → bb k := fun k hk => hb k hk
    have g0 := f0 (hb 0 (by decide))
    have g1 := f1 (hb 1 (by decide))
    have g2 := f2 (hb 2 (by decide))
    have g3 := f3 (hb 3 (by decide))
    have g4 := f4 (hb 4 (by decide))
    have g6 := f6 (hb 6 (by decide))
    have p4_3 := o4_3 (hb 4 (by decide)) (hb 3 (by decide))
    clear f0 f1 f2 f3 f4 f5 f6 o4_3
    obtain rfl := g0
    obtain rfl := g1
    obtain rfl := g2
    obtain ⟨-, rfl⟩ := g6
    obtain ⟨X4, x4, y4, rfl, hX4, ⟨hc4, hd4⟩, ⟨hf4, hg4⟩, hs4⟩ := g4
    obtain ⟨rfl, rfl⟩ := hs4 (hb 5 (by decide))
    have KK := Lib.hid (KK.out.trans G)
    have hcl : (confL X Y l).length ≤ 30 := Nat.le_trans (confL_sublist X Y l).length_le hlen30
    obtain ⟨c, hc⟩ : ∃ c, confL X Y l = c := ⟨_, rfl⟩
    have hgap : ∀ i j : Nat, i ≤ j → j < c.length → gapB X Y (atL c) (szL c) i j = true := fun i j hij hj => by rw [← hc] at hj ⊢; exact confL_gap hj hij
    have hok : okT c = true := by rw [← hc]; exact okT_confL Hok.out
    rw [hc] at g3 hcl
    obtain ⟨a3, c3, rfl, e3⟩ := g3.form
    have HC := Lib.hid e3
    have HG := Lib.hid hgap
    have HK := Lib.hid (okT_iff.1 hok)
    obtain ⟨n, hn⟩ : ∃ n, c.length = n := ⟨_, rfl⟩
    have HL := Lib.hid hn
    rw [hn] at hcl ⊢
    clear hb g3 e3 hgap hok hc hn hf4 hg4 hs4 p4_3 G HD d0 d1 d2 d3 Hok Hl
    have hX4 := cellBlock hc4
    go_wp2_with (go_at_call 35; ((with_reducible refine (backlog_is X Y S L nB 0 _ H1).mono ?_); rintro _ w2 ⟨rfl, k2⟩; have s0 : w2.cell? ⟨wx.heap.size, 0, none⟩ = some (.int .i64 S) := k2.some (by simp [go_sem]); have s1 : w2.cell? ⟨wx.heap.size, 1, none⟩ = some (.int .i64 L) := k2.some (by simp [go_sem]); have kq := (Keep.alloc (Keep.refl wx) (.cells #[.int .i64 S, .int .i64 L] 54)).trans k2))
    have KK := Lib.hid (KK.out.trans kq)
    obtain ⟨BS, hBS⟩ : ∃ BS, wx.heap.size = BS := ⟨_, rfl⟩
    rw [hBS] at s0 s1
    try rw [hBS]
    have HC : Hid (∀ j, j < n → ∃ b off, a3 = some ⟨b, off, none⟩ ∧ w2.cell? ⟨b, off + j * 2, none⟩ = some (.int .i64 (atL c j)) ∧ w2.cell? ⟨b, off + j * 2 + 1, none⟩ = some (.int .i64 (szL c j))) := Lib.hid fun j hj => by
      obtain ⟨b, off, e, h1, h2⟩ := HC.out j (by rw [HL.out]; exact hj)
      exact ⟨b, off, e, kq.some h1, kq.some h2⟩
    clear k2 kq hBS hS H1 hc4 hd4 hX4
    go_loopw [14] (fun s14 wr => ∃ i : Nat, i ≤ n ∧ s14 = .int .i64 (i : Int) ∧ Hid (Keep w2 wr)) (fun i _ => n - (intOf i).toNat)
    case atStart => exact ⟨0, by omega, rfl, Lib.hid (Keep.refl _)⟩
    case round =>
      obtain ⟨i, hi, rfl, HR⟩ := hrel
      by_cases hlt : i < n
      · obtain ⟨b, off, rfl, ci, -⟩ := HC.out i hlt
        have hlt' : (i : Int) < (n : Int) := by omega
        have HA : ∀ j, j < n → w2.cell? ⟨b, off + j * 2, none⟩ = some (.int .i64 (atL c j)) ∧ w2.cell? ⟨b, off + j * 2 + 1, none⟩ = some (.int .i64 (szL c j)) := fun j hj => by
          obtain ⟨b', off', e, h1, h2⟩ := HC.out j hj
          cases e
          exact ⟨h1, h2⟩
        have HA := Lib.hid HA
        obtain ⟨ai, hai⟩ : ∃ ai, atL c i = ai := ⟨_, rfl⟩
        have HAI := Lib.hid hai
        rw [hai] at ci
        clear hai
        obtain ⟨W3, hW3⟩ : ∃ W3, wr = W3 := ⟨_, rfl⟩
        rw [hW3] at HR
        try rw [hW3]
        clear hW3
        go_wp2
        go_loopw [15, 16] (fun s15 s16 wi => ∃ (j : Nat) (sm : Int), i ≤ j ∧ j ≤ n ∧ s16 = .int .i64 (j : Int) ∧ s15 = .int .i64 sm ∧ Hid (psum (szL c) j - psum (szL c) i = sm ∧ Keep W3 wi)) (fun _ k _ => n - (intOf k).toNat)
        case atStart => exact ⟨i, 0, Nat.le_refl _, by omega, rfl, rfl, Lib.hid ⟨by omega, Keep.refl _⟩⟩
        case round =>
          obtain ⟨j, sm, hij, hj, rfl, rfl, HI⟩ := hrel
          have KW := HR.out.trans HI.out.2
          by_cases hjlt : j < n
          · have hjlt' : (j : Int) < (n : Int) := by omega
            obtain ⟨hx, hy⟩ := HA.out j hjlt
            have cj := KW.some hx
            have dj := KW.some hy
            have ci := KW.some ci
            have s0 := KW.some s0
            have s1 := KW.some s1
            have bd := okSteps_bd HK.out.2 j (by rw [HL.out]; omega)
            have bi := okSteps_bd HK.out.2 i (by rw [HL.out]; omega)
            have pb := psum_bd HK.out.2 (j + 1) (by rw [HL.out]; omega)
            have pb0 := psum_bd HK.out.2 i (by rw [HL.out]; omega)
            have pm1 := psum_mono (s := szL c) (n := c.length) (fun i hi => by have := okSteps_bd HK.out.2 i hi; omega) (j + 1) (by rw [HL.out]; omega) i (by omega)
            have pm0 := psum_mono (s := szL c) (n := c.length) (fun i hi => by have := okSteps_bd HK.out.2 i hi; omega) j (by rw [HL.out]; omega) i (by omega)
            have hg : (psum (szL c) (j + 1) - psum (szL c) i - X) * 1048576 ≤ Y * (atL c j - atL c i) := by have := HG.out i j hij (by rw [HL.out]; exact hjlt); unfold gapB at this; simpa using this
            have eP : psum (szL c) (j + 1) = psum (szL c) j + szL c j := rfl
            have hs := HI.out.1
            have hord : atL c i ≤ atL c j := okSteps_mono HK.out.2 j (by rw [HL.out]; omega) i hij
            obtain ⟨x, hx⟩ : ∃ x, atL c j = x := ⟨_, rfl⟩
            obtain ⟨y, hy⟩ : ∃ y, szL c j = y := ⟨_, rfl⟩
            obtain ⟨sm', hsm'⟩ : ∃ sm', sm + y = sm' := ⟨_, rfl⟩
            have hs' : psum (szL c) (j + 1) - psum (szL c) i = sm' := by omega
            rw [hx] at bd cj hg hord
            rw [hy] at bd dj
            rw [HAI.out] at bi hg hord
            rw [hs'] at hg
            have bsm : 0 ≤ sm ∧ sm ≤ 209715200 := by omega
            have bsm' : 0 ≤ sm' ∧ sm' ≤ 209715200 := by omega
            obtain ⟨u, hu⟩ : ∃ u, x + t % 99999 = u := ⟨_, rfl⟩
            have bu : 0 ≤ u ∧ u ≤ 1099511727774 ∧ x ≤ u := by omega
            have hfin := waits_math (L := L) bS.2.2 (show 0 ≤ Y by omega) bu.2.2 hord hg
            rw [HNB.out] at hfin
            obtain ⟨mx, hmx⟩ : ∃ mx, max 0 (u - ai - L) = mx := ⟨_, rfl⟩
            rw [hmx] at hfin
            have bmx : 0 ≤ mx ∧ mx ≤ 1099511727774 := by omega
            have bp := prod_bd (show 0 ≤ S by omega) bS.2.1 bmx.1 bmx.2
            obtain ⟨sent, hsent⟩ : ∃ v, S * mx = v := ⟨_, rfl⟩
            rw [hsent] at hfin bp
            have HMX := Lib.hid hmx
            have HSE := Lib.hid hsent
            have HU := Lib.hid hu
            have HN := Lib.hid (⟨hs', HI.out.2⟩ : psum (szL c) (j + 1) - psum (szL c) i = sm' ∧ Keep W3 wr)
            have es : IntKind.i64.wrap (sm + y) = sm' := by rw [hsm']; exact IntWalk.i64_in _ (by omega)
            have hbk := cellBlock cj
            have hsb := cellBlock s0
            clear hs hs' hx hy hmx hsent pb pb0 pm1 pm0 eP HI KW hg
            go_upto_region 17 with fail
            try rw [hsm']
            try rw [hu]
            clear hsm' hu
            refine region_lin (W0 := wr) (listF [fun v ww => v = .pointer (some ⟨BS, 0, none⟩), fun v ww => v = .int .i64 S, fun v ww => v = .int .i64 u, fun v ww => v = .slice (some ⟨b, off, none⟩) n c3, fun v ww => v = .int .i64 ((i : Int)), fun v ww => v = .pointer (some ⟨b, off + i * 2, none⟩), fun v ww => v = .pointer (some ⟨b, off + i * 2, none⟩), fun v ww => v = .int .i64 ai, fun v ww => v = .int .i64 (u - ai), fun v ww => v = .pointer (some ⟨BS, 1, none⟩), fun v ww => v = .int .i64 L, fun v ww => v = .int .i64 (u - ai - L), fun v ww => v = .int .i64 mx, fun v ww => v = .int .i64 sent, fun v ww => v = .int .i64 sent]) (listF_stable _ ⟨fun _ _ _ _ h => h, fun _ _ _ _ h => h, fun _ _ _ _ h => h, fun _ _ _ _ h => h, fun _ _ _ _ h => h, fun _ _ _ _ h => h, fun _ _ _ _ h => h, fun _ _ _ _ h => h, fun _ _ _ _ h => h, fun _ _ _ _ h => h, fun _ _ _ _ h => h, fun _ _ _ _ h => h, fun _ _ _ _ h => h, fun _ _ _ _ h => h, fun _ _ _ _ h => h, trivial⟩) (by kernel_rfl) (by kernel_rfl) (by kernel_rfl) (by kernel_rfl) (Keep.refl _) ?done17 ?steps17
            case done17 =>
              intro T17 wz17 hJ
              obtain ⟨x0, t0, f0⟩ := hJ.fact 0 72 (by decide) (by kernel_rfl)
              obtain rfl : x0 = .pointer (some ⟨BS, 0, none⟩) := f0
              obtain ⟨x1, t1, f1⟩ := hJ.fact 1 73 (by decide) (by kernel_rfl)
              obtain rfl : x1 = .int .i64 S := f1
              obtain ⟨x2, t2, f2⟩ := hJ.fact 2 74 (by decide) (by kernel_rfl)
              obtain rfl : x2 = .int .i64 u := f2
              obtain ⟨x3, t3, f3⟩ := hJ.fact 3 75 (by decide) (by kernel_rfl)
              obtain rfl : x3 = .slice (some ⟨b, off, none⟩) n c3 := f3
              obtain ⟨x4, t4, f4⟩ := hJ.fact 4 76 (by decide) (by kernel_rfl)
              obtain rfl : x4 = .int .i64 ((i : Int)) := f4
              obtain ⟨x5, t5, f5⟩ := hJ.fact 5 77 (by decide) (by kernel_rfl)
              obtain rfl : x5 = .pointer (some ⟨b, off + i * 2, none⟩) := f5
              obtain ⟨x6, t6, f6⟩ := hJ.fact 6 78 (by decide) (by kernel_rfl)
              obtain rfl : x6 = .pointer (some ⟨b, off + i * 2, none⟩) := f6
              obtain ⟨x7, t7, f7⟩ := hJ.fact 7 79 (by decide) (by kernel_rfl)
              obtain rfl : x7 = .int .i64 ai := f7
              obtain ⟨x8, t8, f8⟩ := hJ.fact 8 80 (by decide) (by kernel_rfl)
              obtain rfl : x8 = .int .i64 (u - ai) := f8
              obtain ⟨x9, t9, f9⟩ := hJ.fact 9 81 (by decide) (by kernel_rfl)
              obtain rfl : x9 = .pointer (some ⟨BS, 1, none⟩) := f9
              obtain ⟨x10, t10, f10⟩ := hJ.fact 10 82 (by decide) (by kernel_rfl)
              obtain rfl : x10 = .int .i64 L := f10
              obtain ⟨x11, t11, f11⟩ := hJ.fact 11 83 (by decide) (by kernel_rfl)
              obtain rfl : x11 = .int .i64 (u - ai - L) := f11
              obtain ⟨x12, t12, f12⟩ := hJ.fact 12 84 (by decide) (by kernel_rfl)
              obtain rfl : x12 = .int .i64 mx := f12
              obtain ⟨x13, t13, f13⟩ := hJ.fact 13 85 (by decide) (by kernel_rfl)
              obtain rfl : x13 = .int .i64 sent := f13
              obtain ⟨x14, t14, f14⟩ := hJ.fact 14 18 (by decide) (by kernel_rfl)
              obtain rfl : x14 = .int .i64 sent := f14
              have hfr := hJ.frame [(72, .pointer (some ⟨BS, 0, none⟩)), (73, .int .i64 S), (74, .int .i64 u), (75, .slice (some ⟨b, off, none⟩) n c3), (76, .int .i64 ((i : Int))), (77, .pointer (some ⟨b, off + i * 2, none⟩)), (78, .pointer (some ⟨b, off + i * 2, none⟩)), (79, .int .i64 ai), (80, .int .i64 (u - ai)), (81, .pointer (some ⟨BS, 1, none⟩)), (82, .int .i64 L), (83, .int .i64 (u - ai - L)), (84, .int .i64 mx), (85, .int .i64 sent), (18, .int .i64 sent)] (by simp [t0, t1, t2, t3, t4, t5, t6, t7, t8, t9, t10, t11, t12, t13, t14]) (by kernel_rfl)
              have G := hJ.keep
              clear hJ t0 t1 t2 t3 t4 t5 t6 t7 t8 t9 t10 t11 t12 t13 t14
              rw [hfr]
              clear hfr T17
              simp only [List.foldl_cons, List.foldl_nil, List.setIfInBounds_toArray, List.set_cons_zero, List.set_cons_succ]
              have KW := Lib.hid (HN.out.2.trans G)
              have w1' : IntKind.i64.wrap (sm' * 1048576) = sm' * 1048576 := IntWalk.i64_in _ (by omega)
              have w2' : IntKind.i64.wrap (sm' * 1048576 - sent) = sm' * 1048576 - sent := IntWalk.i64_in _ (by omega)
              have w3' : IntKind.i64.wrap (nB * 1048576) = nB * 1048576 := IntWalk.i64_in _ (by omega)
              have w4' : ¬ nB * 1048576 < sm' * 1048576 - sent := by omega
              go_wp2
              go_roundw
              case rel => exact ⟨j + 1, sm', by omega, by omega, by go_num, rfl, Lib.hid ⟨HN.out.1, KW.out⟩⟩
              case measure => simp [intOf] <;> omega
            case steps17 =>
              refine LinSteps.cons (k := 0) ?_ (LinSteps.cons (k := 1) ?_ (LinSteps.cons (k := 2) ?_ (LinSteps.cons (k := 3) ?_ (LinSteps.cons (k := 4) ?_ (LinSteps.cons (k := 5) ?_ (LinSteps.cons (k := 6) ?_ (LinSteps.cons (k := 7) ?_ (LinSteps.cons (k := 8) ?_ (LinSteps.cons (k := 9) ?_ (LinSteps.cons (k := 10) ?_ (LinSteps.cons (k := 11) ?_ (LinSteps.cons (k := 12) ?_ (LinSteps.cons (k := 13) ?_ (LinSteps.cons (k := 14) ?_ (LinSteps.nil)))))))))))))))
              · -- 0
                refine LinStep.plain rfl ?_
                intro QQ bb T ww hn hJ hd K HK
                have s11 := (hJ.oldSlot 11 (by kernel_rfl))
                simp only [List.getElem?_toArray, List.getElem?_cons_zero, List.getElem?_cons_succ] at s11
                have G := hJ.keep
                clear hJ hd hn
                go_simp
                exact HK.out _ _ (Keep.refl _) rfl
              · -- 1
                refine LinStep.plain rfl ?_
                intro QQ bb T ww hn hJ hd K HK
                obtain ⟨x0, t0, f0⟩ := hJ.dep hd 0 72 (by kernel_rfl) (by kernel_rfl)
                obtain rfl : x0 = .pointer (some ⟨BS, 0, none⟩) := f0
                have G := hJ.keep
                clear hJ hd hn
                have k0 := G.some s0
                go_simp
                exact HK.out _ _ (Keep.refl _) rfl
              · -- 2
                refine LinStep.plain rfl ?_
                intro QQ bb T ww hn hJ hd K HK
                have s17 := (hJ.oldSlot 17 (by kernel_rfl))
                simp only [List.getElem?_toArray, List.getElem?_cons_zero, List.getElem?_cons_succ] at s17
                have G := hJ.keep
                clear hJ hd hn
                go_simp
                exact HK.out _ _ (Keep.refl _) rfl
              · -- 3
                refine LinStep.plain rfl ?_
                intro QQ bb T ww hn hJ hd K HK
                have s10 := (hJ.oldSlot 10 (by kernel_rfl))
                simp only [List.getElem?_toArray, List.getElem?_cons_zero, List.getElem?_cons_succ] at s10
                have G := hJ.keep
                clear hJ hd hn
                go_simp
                exact HK.out _ _ (Keep.refl _) rfl
              · -- 4
                refine LinStep.plain rfl ?_
                intro QQ bb T ww hn hJ hd K HK
                have s14 := (hJ.oldSlot 14 (by kernel_rfl))
                simp only [List.getElem?_toArray, List.getElem?_cons_zero, List.getElem?_cons_succ] at s14
                have G := hJ.keep
                clear hJ hd hn
                go_simp
                exact HK.out _ _ (Keep.refl _) rfl
              · -- 5
                refine LinStep.plain rfl ?_
                intro QQ bb T ww hn hJ hd K HK
                obtain ⟨x3, t3, f3⟩ := hJ.dep hd 3 75 (by kernel_rfl) (by kernel_rfl)
                obtain rfl : x3 = .slice (some ⟨b, off, none⟩) n c3 := f3
                obtain ⟨x4, t4, f4⟩ := hJ.dep hd 4 76 (by kernel_rfl) (by kernel_rfl)
                obtain rfl : x4 = .int .i64 ((i : Int)) := f4
                have G := hJ.keep
                clear hJ hd hn
                go_wp2
                exact HK.out _ _ (Keep.refl _) rfl
              · -- 6
                refine LinStep.plain rfl ?_
                intro QQ bb T ww hn hJ hd K HK
                obtain ⟨x5, t5, f5⟩ := hJ.dep hd 5 77 (by kernel_rfl) (by kernel_rfl)
                obtain rfl : x5 = .pointer (some ⟨b, off + i * 2, none⟩) := f5
                have G := hJ.keep
                clear hJ hd hn
                go_simp
                exact HK.out _ _ (Keep.refl _) rfl
              · -- 7
                refine LinStep.plain rfl ?_
                intro QQ bb T ww hn hJ hd K HK
                obtain ⟨x6, t6, f6⟩ := hJ.dep hd 6 78 (by kernel_rfl) (by kernel_rfl)
                obtain rfl : x6 = .pointer (some ⟨b, off + i * 2, none⟩) := f6
                have G := hJ.keep
                clear hJ hd hn
                have k0 := G.some ci
                go_simp
                exact HK.out _ _ (Keep.refl _) rfl
              · -- 8
                refine LinStep.plain rfl ?_
                intro QQ bb T ww hn hJ hd K HK
                obtain ⟨x2, t2, f2⟩ := hJ.dep hd 2 74 (by kernel_rfl) (by kernel_rfl)
                obtain rfl : x2 = .int .i64 u := f2
                obtain ⟨x7, t7, f7⟩ := hJ.dep hd 7 79 (by kernel_rfl) (by kernel_rfl)
                obtain rfl : x7 = .int .i64 ai := f7
                have G := hJ.keep
                clear hJ hd hn
                have e1 : IntKind.i64.wrap (u - ai) = u - ai := IntWalk.i64_in _ (by omega)
                go_simp
                exact HK.out _ _ (Keep.refl _) rfl
              · -- 9
                refine LinStep.plain rfl ?_
                intro QQ bb T ww hn hJ hd K HK
                have s11 := (hJ.oldSlot 11 (by kernel_rfl))
                simp only [List.getElem?_toArray, List.getElem?_cons_zero, List.getElem?_cons_succ] at s11
                have G := hJ.keep
                clear hJ hd hn
                go_simp
                exact HK.out _ _ (Keep.refl _) rfl
              · -- 10
                refine LinStep.plain rfl ?_
                intro QQ bb T ww hn hJ hd K HK
                obtain ⟨x9, t9, f9⟩ := hJ.dep hd 9 81 (by kernel_rfl) (by kernel_rfl)
                obtain rfl : x9 = .pointer (some ⟨BS, 1, none⟩) := f9
                have G := hJ.keep
                clear hJ hd hn
                have k0 := G.some s1
                go_simp
                exact HK.out _ _ (Keep.refl _) rfl
              · -- 11
                refine LinStep.plain rfl ?_
                intro QQ bb T ww hn hJ hd K HK
                obtain ⟨x8, t8, f8⟩ := hJ.dep hd 8 80 (by kernel_rfl) (by kernel_rfl)
                obtain rfl : x8 = .int .i64 (u - ai) := f8
                obtain ⟨x10, t10, f10⟩ := hJ.dep hd 10 82 (by kernel_rfl) (by kernel_rfl)
                obtain rfl : x10 = .int .i64 L := f10
                have G := hJ.keep
                clear hJ hd hn
                have e1 : IntKind.i64.wrap (u - ai - L) = u - ai - L := IntWalk.i64_in _ (by omega)
                go_simp
                exact HK.out _ _ (Keep.refl _) rfl
              · -- 12
                refine LinStep.plain rfl ?_
                intro QQ bb T ww hn hJ hd K HK
                obtain ⟨x11, t11, f11⟩ := hJ.dep hd 11 83 (by kernel_rfl) (by kernel_rfl)
                obtain rfl : x11 = .int .i64 (u - ai - L) := f11
                have G := hJ.keep
                clear hJ hd hn
                go_simp
                exact HK.out _ _ (Keep.refl _) (congrArg (Value.int .i64) HMX.out)
              · -- 13
                refine LinStep.plain rfl ?_
                intro QQ bb T ww hn hJ hd K HK
                obtain ⟨x1, t1, f1⟩ := hJ.dep hd 1 73 (by kernel_rfl) (by kernel_rfl)
                obtain rfl : x1 = .int .i64 S := f1
                obtain ⟨x12, t12, f12⟩ := hJ.dep hd 12 84 (by kernel_rfl) (by kernel_rfl)
                obtain rfl : x12 = .int .i64 mx := f12
                have G := hJ.keep
                clear hJ hd hn
                have e0 : IntKind.i64.wrap sent = sent := IntWalk.i64_in _ (by omega)
                have e1 : S * mx = sent := HSE.out
                go_simp
                exact HK.out _ _ (Keep.refl _) rfl
              · -- 14
                refine LinStep.plain rfl ?_
                intro QQ bb T ww hn hJ hd K HK
                obtain ⟨x13, t13, f13⟩ := hJ.dep hd 13 85 (by kernel_rfl) (by kernel_rfl)
                obtain rfl : x13 = .int .i64 sent := f13
                have G := hJ.keep
                clear hJ hd hn
                go_simp
                exact HK.out _ _ (Keep.refl _) rfl
          · obtain rfl : j = n := by omega
            have HR := Lib.hid (HR.out.trans HI.out.2)
            clear HI KW
            go_wp2
            go_roundw
            case rel => exact ⟨i + 1, by omega, by go_num, HR⟩
            case measure => simp [intOf]; omega
      · obtain rfl : i = n := by omega
        go_wp2
        go_ret
        exact ⟨rfl, KK.out.trans HR.out⟩
  case startx => exact ⟨_, _, _, _, _, _, rfl, Keep.drew (Keep.refl _), fun h => h.elim, fun h => h.elim, fun h => h.elim, fun h => h.elim, fun h => h.elim, fun h => h.elim, fun h => h.elim, fun h => h.elim⟩
  case stepsx =>
    refine StepsFrom.cons (k := 0) ?_ (StepsFrom.cons (k := 1) ?_ (StepsFrom.cons (k := 2) ?_ (StepsFrom.cons (k := 3) ?_ (StepsFrom.cons (k := 4) ?_ (StepsFrom.cons (k := 5) ?_ (StepsFrom.cons (k := 6) ?_ (StepsFrom.nil)))))))
    · -- 0: val
      rintro bb aa wx hn hd ⟨v9, v10, v21, v22, v23, v24, rfl, G, f0, f1, f2, f3, f4, f5, f6, o4_3⟩ K hK
      have k0 := G.some d0
      have k1 := G.some d1
      have k2 := G.some d2
      have k3 := G.some d3
      have HK := Lib.hid hK
      clear hK
      go_simp
      exact HK.out _ _ ⟨_, _, _, _, _, _, rfl, G, fun _ => rfl, up (by decide) f1, up (by decide) f2, fun h => (f3 (down (by decide) h)).keep (Keep.refl _), fun h => (f4 (down (by decide) h)).step (Keep.refl _) (down (by decide)), fun h => Or.inr (f5 (down (by decide) h)), fun h => ⟨Or.inr (f6 (down (by decide) h)).1, (f6 (down (by decide) h)).2⟩, fun h h' => o4_3 (down (by decide) h) (down (by decide) h')⟩
    · -- 1: val
      rintro bb aa wx hn hd ⟨v9, v10, v21, v22, v23, v24, rfl, G, f0, f1, f2, f3, f4, f5, f6, o4_3⟩ K hK
      have b0 : bb 0 := hd ⟨0, .data⟩ (by simp) (by rfl)
      obtain rfl := f0 b0
      have HK := Lib.hid hK
      clear hK
      go_wp2_with (go_at_call 16; ((with_reducible refine (draftBucket_is _ B R gs ss _ (Lib.hid (HD.out.keep G)) X Y HX HY).mono ?_); rintro _ w1 ⟨rfl, hk⟩))
      exact HK.out _ _ ⟨_, _, _, _, _, _, rfl, (G.trans hk), fun _ => rfl, fun _ => rfl, up (by decide) f2, fun h => (f3 (down (by decide) h)).keep hk, fun h => (f4 (down (by decide) h)).step hk (down (by decide)), fun h => Or.inr (f5 (down (by decide) h)), fun h => ⟨Or.inr (f6 (down (by decide) h)).1, (f6 (down (by decide) h)).2⟩, fun h h' => o4_3 (down (by decide) h) (down (by decide) h')⟩
    · -- 2: val
      rintro bb aa wx hn hd ⟨v9, v10, v21, v22, v23, v24, rfl, G, f0, f1, f2, f3, f4, f5, f6, o4_3⟩ K hK
      have k0 := G.some d0
      have k1 := G.some d1
      have k2 := G.some d2
      have k3 := G.some d3
      have HK := Lib.hid hK
      clear hK
      go_simp
      exact HK.out _ _ ⟨_, _, _, _, _, _, rfl, G, up (by decide) f0, up (by decide) f1, fun _ => rfl, fun h => (f3 (down (by decide) h)).keep (Keep.refl _), fun h => (f4 (down (by decide) h)).step (Keep.refl _) (down (by decide)), fun h => Or.inr (f5 (down (by decide) h)), fun h => ⟨Or.inr (f6 (down (by decide) h)).1, (f6 (down (by decide) h)).2⟩, fun h h' => o4_3 (down (by decide) h) (down (by decide) h')⟩
    · -- 3: row
      rintro bb aa wx hn hd ⟨v9, v10, v21, v22, v23, v24, rfl, G, f0, f1, f2, f3, f4, f5, f6, o4_3⟩ K hK
      have b2 : bb 2 := hd ⟨2, .data⟩ (by simp) (by rfl)
      obtain rfl := f2 b2
      have HK := Lib.hid hK
      clear hK
      go_wp2_with (go_at_call 17; ((with_reducible refine (conf_is _ B R gs ss _ (Lib.hid (HD.out.keep G)) X Y HX HY l Hl).mono ?_); rintro _ w1 ⟨v1, rfl, hr, hk, hf⟩))
      exact HK.out _ _ ⟨_, _, _, _, _, _, rfl, (G.trans hk), up (by decide) f0, up (by decide) f1, fun _ => rfl, fun _ => hr, fun h => (f4 (down (by decide) h)).step hk (down (by decide)), fun h => Or.inr (f5 (down (by decide) h)), fun h => absurd (f6 (down (by decide) h)).1 hn, fun h _ => (f4 (down (by decide) h)).offFresh hf⟩
    · -- 4: alloc
      rintro bb aa wx hn hd ⟨v9, v10, v21, v22, v23, v24, rfl, G, f0, f1, f2, f3, f4, f5, f6, o4_3⟩ K hK
      have HK := Lib.hid hK
      clear hK
      go_simp
      exact HK.out _ _ ⟨_, _, _, _, _, _, rfl, (G.trans (Keep.alloc (Keep.refl _) _)), up (by decide) f0, up (by decide) f1, up (by decide) f2, fun h => (f3 (down (by decide) h)).keep (Keep.alloc (Keep.refl _) _), fun _ => VarAt.new G (fun h => hn (f5 (h.resolve_left (by decide)))), fun _ => Or.inl rfl, fun h => ⟨Or.inr (f6 (down (by decide) h)).1, (f6 (down (by decide) h)).2⟩, fun _ h => (f3 (down (by decide) h)).offNew⟩
    · -- 5: store
      rintro bb aa wx hn hd ⟨v9, v10, v21, v22, v23, v24, rfl, G, f0, f1, f2, f3, f4, f5, f6, o4_3⟩ K hK
      have b4 : bb 4 := hd ⟨4, .data⟩ (by simp) (by rfl)
      have b1 : bb 1 := hd ⟨1, .data⟩ (by simp) (by rfl)
      obtain rfl := f1 b1
      obtain ⟨X, c0, c1, rfl, hX, ⟨hc0, hc1⟩, ⟨hf0, hf1⟩, -⟩ := f4 b4
      have HK := Lib.hid hK
      clear hK
      go_simp
      exact HK.out _ _ ⟨_, _, _, _, _, _, rfl, ((G.setCell hX _).setCell hX _), up (by decide) f0, fun _ => rfl, up (by decide) f2, fun h => (f3 (down (by decide) h)).store (o4_3 b4 (down (by decide) h)), fun _ => VarAt.here hX hc0 hc1 hf0 hf1, fun _ => Or.inr b4, fun h => ⟨Or.inr (f6 (down (by decide) h)).1, (f6 (down (by decide) h)).2⟩, fun h h' => o4_3 (down (by decide) h) (down (by decide) h')⟩
    · -- 6: val
      rintro bb aa wx hn hd ⟨v9, v10, v21, v22, v23, v24, rfl, G, f0, f1, f2, f3, f4, f5, f6, o4_3⟩ K hK
      have b3 : bb 3 := hd ⟨3, .data⟩ (by simp) (by rfl)
      have HK := Lib.hid hK
      clear hK
      go_simp
      exact HK.out _ _ ⟨_, _, _, _, _, _, rfl, G, up (by decide) f0, up (by decide) f1, up (by decide) f2, fun h => (f3 (down (by decide) h)).keep (Keep.refl _), fun h => (f4 (down (by decide) h)).step (Keep.refl _) (down (by decide)), fun h => Or.inr (f5 (down (by decide) h)), fun _ => ⟨Or.inr b3, rfl⟩, fun h h' => o4_3 (down (by decide) h) (down (by decide) h')⟩

theorem lawWaits_any (Dv : Value) (B R : Int) (gs ss : List Int) (m L t : Int) (w : World) (h : DraftAt w Dv B R gs ss) (hm : 0 ≤ m ∧ m ≤ 4294967295) (hL : 0 ≤ L ∧ L ≤ 65535) (ht : 0 ≤ t ∧ t ≤ 4294967295) : Calls Try.prog 12 #[Dv, .int .u32 m, .int .u16 L, .int .u32 t] w (Res (.bool true) w) := by
  have h' := h
  obtain ⟨⟨g, s, rfl, h1, h2⟩, h3, h4⟩ := h
  obtain ⟨ga, gl, gc, rfl, -⟩ := h1.form
  obtain ⟨sa, sl, sc, rfl, -⟩ := h2.form
  exact waits_walk B R ga sa gl gc sl sc gs ss m L t w (Lib.hid h') _ _ (Lib.hid rfl) (Lib.hid rfl) (Lib.hid (okBk_of B R)) _ (Lib.hid rfl) (Lib.hid (okT_traceD h1.1 h2.1 (by omega))) (by rw [traceD_len]; omega) hm hL ht

end Go.Proofs.Ytmamadgikjkjdaa
