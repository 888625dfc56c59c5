/- MergeCuts. -/
import Derived.Test.YtgejpbgpgklimaaMSame
import Derived.Test.YtgejpbgpgklimaaMRefCut
import Derived.Test.YtgejpbgpgklimaaMWorks
import Derived.Test.YtgejpbgpgklimaaMAppV
namespace Go.Proofs.Ytgejpbgpgklimaa
open Go Go.RowKit

theorem OwnI.lit0 (w : World) : OwnI (w.alloc (.cells #[] 3)) w.heap.size (.slice (some ⟨w.heap.size, 0, none⟩) 0 0) [] := by
  have := World.ownsRow_lit (base := w.heap.size) (size := 1) (e := 3) w #[] 0 (Nat.le_refl _) (by unfold maxLen; omega) (by simp)
  unfold OwnI
  simpa using this
theorem OwnI.any {w : World} {base : Nat} {v : Value} {l : List Int} (h : OwnI w base v l) : (v = .slice none 0 0 ∧ l = []) ∨ ∃ g cap, v = .slice (some ⟨g, 0, none⟩) l.length cap ∧ base ≤ g ∧ g < w.heap.size ∧ (∀ j, w.frozen? ⟨g, j, none⟩ = false) ∧ ∀ j, j < l.length → w.cell? ⟨g, j, none⟩ = some (.int .i64 (l.getD j 0)) := by
  rcases h.2 with ⟨rfl, h0⟩ | ⟨g, cap, cur, rfl, hb, hg, hn, hm, hs, ht⟩
  · exact .inl ⟨rfl, List.length_eq_zero_iff.1 h0⟩
  · refine .inr ⟨g, cap, rfl, hb, heap_lt hg, fun j => frozen_of_row w g j _ _ hg, fun j hj => ?_⟩
    rw [cell_of_row w g j cur _ (0, 0) hg, ← Array.getElem?_toList]
    have e : (l.map (Value.int .i64))[j]? = some (.int .i64 (l.getD j 0)) := by simp [List.getD, hj]
    rw [← ht, List.getElem?_take, if_pos (by omega)] at e
    exact e
theorem OwnI.form {w : World} {base : Nat} {v : Value} {l : List Int} (h : OwnI w base v l) (h9 : l.length ≤ 1000000) : ∃ ao cap, v = .slice ao l.length cap ∧ (0 < l.length → ∃ g, ao = some ⟨g, 0, none⟩ ∧ base ≤ g ∧ g < w.heap.size ∧ (∀ j, w.frozen? ⟨g, j, none⟩ = false) ∧ ∀ j, j < l.length → w.cell? ⟨g, j, none⟩ = some (.int .i64 (l.getD j 0))) ∧ ListAt w (.slice ao l.length cap) l := by
  have h2 := h.list h9
  rcases h.any with ⟨rfl, rfl⟩ | ⟨g, cap, rfl, h3, h4, h5, h6⟩
  · exact ⟨none, 0, rfl, fun c => absurd c (by simp), h2⟩
  · exact ⟨_, cap, rfl, fun _ => ⟨g, rfl, h3, h4, h5, h6⟩, h2⟩
theorem list_set {w : World} {g n cap : Nat} {l : List Int} (hn : l.length = n) (h9 : n ≤ 1000000) (h : ∀ j, j < n → w.cell? ⟨g, j, none⟩ = some (.int .i64 (l.getD j 0))) (i : Nat) (z : Int) : ListAt (w.setCell ⟨g, i, none⟩ (.int .i64 z)) (.slice (some ⟨g, 0, none⟩) n cap) (l.set i z) := by
  refine .inr ⟨g, 0, n, cap, rfl, by rw [List.length_set]; exact hn, by omega, fun j hj => ?_⟩
  rw [Nat.zero_add]
  by_cases e : j = i
  · subst e
    rw [World.cell?_setCell_same _ _ _ (h j hj)]
    simp [List.getD, hn, hj]
  · rw [World.cell?_setCell_other _ _ _ _ (by intro c; injection c with c1 c2; omega), h j hj]
    simp [List.getD, Ne.symm e]
set_option maxRecDepth 100000 in
set_option maxHeartbeats 4000000 in
theorem lawCuts_any (x : ByteArray) (x1 : ByteArray) (L g : Int) (V : Value) (gs : List Int) (num : Int) (c0 : Option Addr) (cn cc : Nat) (cs : List Int) (by8 : Int) (w : World) (hL : 0 ≤ L ∧ L < 65536) (hg : 0 ≤ g ∧ g < 256) (hx1 : x1.size ≤ maxLen) (hb : BytesL gs) (hV : BytesIn w V gs) (hx : x.size ≤ maxLen) (hcs : ListAt w (.slice c0 cn cc) cs) (hcc : cn ≤ cc) (h8 : -128 ≤ by8 ∧ by8 ≤ 127) :
    Calls Try.prog 3 #[.string x, .agg #[.string x1, .int .u16 L, .int .u8 g, V], .int .i64 num, .slice c0 cn cc, .int .i8 by8] w (Res (.bool true) w) := by
  obtain ⟨v0, len, cap, rfl⟩ := bytes_slice hV
  unfold maxLen at hx
  obtain ⟨j, hj⟩ : ∃ j : Nat, min (x.size : Int) 200 = (j : Int) ∧ j ≤ x.size ∧ j ≤ 200 := ⟨min x.size 200, by omega, by omega, by omega⟩
  obtain ⟨m, hm⟩ : ∃ m : Nat, min (cn : Int) 8 = (m : Int) ∧ m ≤ cn ∧ m ≤ 8 := ⟨min cn 8, by omega, by omega, by omega⟩
  obtain ⟨y, hy⟩ : ∃ y, x.extract 0 j = y := ⟨_, rfl⟩
  have hys : y.size ≤ 200 := by rw [← hy, ByteArray.size_extract]; omega
  have hsl : ∀ wy : World, (Instr.slice 9 (.string x) none (some (.int .i64 j)) none).run Try.prog wy = .ok (.string y) wy := by rw [← hy]; exact slice_to x j hj.2.1
  have hsc : ∀ wy : World, (Instr.slice 26 (.slice c0 cn cc) none (some (.int .i64 m)) none).run Try.prog wy = .ok (.slice c0 m cc) wy := fun wy => cuts_to c0 cn cc m (by omega) wy
  have HC := Lib.hid (hcs.cut hm.2.1)
  obtain ⟨c3, hc3⟩ : ∃ c, cs.take m = c := ⟨_, rfl⟩
  rw [hc3] at HC
  have HM := Lib.hid hm.2
  replace hj := hj.1
  replace hm := hm.1
  have HV := Lib.hid hV
  have HB := Lib.hid hb
  have HX := Lib.hid (And.intro hL (And.intro hg hx1))
  have H8 := Lib.hid h8
  clear hV hb hcs hcc hx hc3 hy h8
  go_enter Try.func3, Try.ntmps3
  go_upto_region 1 with fail
  go_cut [0, 3] (fun a b wx => a = .string y ∧ b = .slice c0 m cc ∧ Hid (DrT wx w.heap.size x1 L g (.slice v0 len cap) ∧ Keep w wx))
  case first =>
    have hd0 := heap_alloc_new w (.cells #[.string x1, .int .u16 L, .int .u8 g, .slice v0 len cap] 25)
    have HK0 := Lib.hid (And.intro (show DrT _ w.heap.size x1 L g _ from hd0) ((Keep.refl w).alloc (.cells #[.string x1, .int .u16 L, .int .u8 g, .slice v0 len cap] 25)))
    clear hd0
    go_region
    all_goals go_wp2
    all_goals go_meet
    all_goals exact ⟨rfl, rfl, Lib.hid ⟨HK0.out.1, Keep.drew HK0.out.2⟩⟩
  case rest =>
    obtain ⟨rfl, rfl, HK⟩ := hcut
    obtain ⟨l0, hl0⟩ : ∃ l, offsD gs x1 L 30 = l := ⟨_, rfl⟩
    obtain ⟨s2, hs2⟩ : ∃ s, frmD x1 L = s := ⟨_, rfl⟩
    obtain ⟨s1, hs1⟩ : ∃ s, sealG y 0#32 = s := ⟨_, rfl⟩
    have HL0 := Lib.hid hl0
    have HS2 := Lib.hid hs2
    have HS1 := Lib.hid hs1
    have hl30 : l0.length ≤ 30 := by rw [← hl0]; exact offsD_length gs x1 L 30
    clear hl0 hs2 hs1
    clear hsl hsc hj hm
    obtain ⟨d0, d1, d2, d3⟩ := dr_cells HK.out.1
    go_upto_region 3 with (go_at_call 10; ((with_reducible refine (offsets_is x1 L g _ gs 30 30 l0 _ HX.out.1 HX.out.2.2 HB.out (HV.out.keep HK.out.2) rfl (by omega) HL0).mono ?_); rintro e' w1 ⟨u1, rfl, ho1, k1⟩))
    have HC1 := Lib.hid (HC.out.keep (HK.out.2.trans k1))
    have HD1 : Hid (DrT w1 w.heap.size x1 L g (.slice v0 len cap)) := Lib.hid (keepRow k1 HK.out.1)
    have HU1 := Lib.hid (ho1.list (by omega))
    have HV1 := Lib.hid (HV.out.keep (HK.out.2.trans k1))
    obtain ⟨a1, n1, cp1, rfl⟩ := list_slice HU1.out
    have HO1 := Lib.hid ho1
    have HKA := Lib.hid (HK.out.2.trans k1)
    clear d0 d1 d2 d3 k1 ho1
    obtain ⟨i0, hi, hz0, hz1, hz2⟩ := info_parts infoInt
    have hlit := OwnI.lit0 w1
    go_upto_region 4 with (at_builtin; refine wpList_appendV rfl _ _ 26 rfl w1.heap.size 3 i0 (.int .i64 0) 1 8 Try.underlying26 hi hz0 hz1 hz2 rfl (by decide) _ 0 [] rfl hlit (.slice a1 n1 cp1) l0.length (l0.map (Value.int .i64)) rfl (reads_ints (HU1.out.keep ((Keep.refl _).alloc _))) (ints_one _) (by unfold maxLen; omega) (by omega) (by simp) ?_; intro v2 w2 ho2 hg2)
    have k2 := ((Keep.refl w1).alloc (.cells #[] 3)).byRow hg2 (fun j e => (World.ownsRow.lt hlit j e).1)
    have ho2' : OwnI w2 w1.heap.size v2 l0 := by
      unfold OwnI
      rwa [Nat.zero_add, List.nil_append] at ho2
    have HK2 := Lib.hid k2
    clear ho2 hg2 hlit k2 hz0 hz1 hz2 hi
    obtain ⟨a12, c12, rfl, hcells, hl2⟩ := ho2'.form (by omega)
    obtain ⟨K, hK⟩ : ∃ K, l0.length = K := ⟨_, rfl⟩
    rw [hK] at hcells hl30 hl2 ⊢
    have HP2 := Lib.hid (And.intro hcells hl2)
    clear ho2' hcells hl2
    go_cut [12, 41] (fun u t wx => u = .slice a12 K c12 ∧ (∃ b, t = .bool b ∧ (b = true ↔ 0 < K)) ∧ Hid (wx = w2.drew ∨ wx = w2))
    case first =>
      go_wp2
      go_meet
      exact ⟨rfl, ⟨decide (0 < K), rfl, by simp⟩, Lib.hid (by first | exact .inl rfl | exact .inr rfl)⟩
    generalize wc = wx at *
    obtain ⟨rfl, ⟨bb, rfl, hbb⟩, hwx⟩ := hcut
    have HK3 : Hid (Keep w1 wx) := Lib.hid (by rcases hwx.out with rfl | rfl; exact Keep.drew HK2.out; exact HK2.out)
    have HP3 : Hid ((0 < K → ∃ g, a12 = some ⟨g, 0, none⟩ ∧ w1.heap.size ≤ g ∧ g < wx.heap.size ∧ (∀ j, wx.frozen? ⟨g, j, none⟩ = false) ∧ ∀ j, j < K → wx.cell? ⟨g, j, none⟩ = some (.int .i64 (l0.getD j 0))) ∧ ListAt wx (.slice a12 K c12) l0) := Lib.hid (by rcases hwx.out with rfl | rfl; exact HP2.out; exact HP2.out)
    clear hwx HP2 HK2
    rename_i hKK
    refine hKK _ _ ?_
    clear hKK
    go_cut [12] (fun u wy => u = .slice a12 K c12 ∧ ∃ l4, Hid (ListAt wy (.slice a12 K c12) l4) ∧ Hid (Keep w1 wy))
    case first =>
      cases bb with
      | false =>
        go_wp2
        go_meet
        exact ⟨rfl, l0, Lib.hid HP3.out.2, HK3⟩
      | true =>
        have hK0 := hbb.1 rfl
        obtain ⟨b, rfl, hb1, hb2, hfr, hcl⟩ := HP3.out.1 hK0
        obtain ⟨U, hU⟩ : ∃ U, IntKind.u64.wrap num = U := ⟨_, rfl⟩
        have hU0 : 0 ≤ U := by rw [← hU]; exact wrap_u64_nonneg num
        obtain ⟨i, hi⟩ : ∃ i : Nat, U % (K : Int) = (i : Int) := ⟨(U % (K : Int)).toNat, by have := Int.emod_nonneg U (show (K : Int) ≠ 0 by omega); omega⟩
        have hiK : i < K := by have := Int.emod_lt_of_pos U (show (0 : Int) < (K : Int) by omega); omega
        have hi2 : U.tmod (K : Int) = (i : Int) := by rw [Int.tmod_eq_emod_of_nonneg hU0, hi]
        have ci := hcl i hiK
        obtain ⟨e0, he0⟩ : ∃ e, l0.getD i 0 = e := ⟨_, rfl⟩
        have fi := hfr i
        rw [he0] at ci
        have hLS := Lib.hid (fun z => list_set (cap := c12) hK (by omega) hcl i z)
        have k3 := Lib.hid (fun z => HK3.out.setCell (a := ⟨b, i, none⟩) hb1 z)
        have hn1 : IntKind.u64.wrap (K : Int) = (K : Int) := by show (K : Int) % 18446744073709551616 = K; omega
        have hn2 : IntKind.i64.wrap (i : Int) = (i : Int) := IntWalk.i64_in _ (by omega)
        have hn3 : IntKind.i64.wrap by8 = by8 := IntWalk.i64_in _ (by have := H8.out; omega)
        clear hcl hfr hK he0 hU0 HP3 hbb
        go_wp2
        go_meet
        exact ⟨rfl, _, Lib.hid (hLS.out _), Lib.hid (k3.out _)⟩
    obtain ⟨rfl, l4, HL4, HK4⟩ := hcut
    clear HK3 HP3 hbb hK hl30
    generalize wc = w4 at *
    have HDD := Lib.hid (keepRow HK4.out HD1.out)
    have HA3 := Lib.hid (HC1.out.keep HK4.out)
    have HA1 := Lib.hid (HU1.out.keep HK4.out)
    obtain ⟨d0, d1, d2, d3⟩ := dr_cells HDD.out
    go_upto_region 7 with (go_at_call 11; ((with_reducible refine (frame_is x1 L g v0 len cap s2 _ HX.out.1 HX.out.2.2 HS2).mono ?_); rintro e' w5 ⟨rfl, k5⟩))
    have HDD := Lib.hid (keepRow k5 HDD.out)
    have HA3 := Lib.hid (HA3.out.keep k5)
    have HA1 := Lib.hid (HA1.out.keep k5)
    have HA4 := Lib.hid (HL4.out.keep k5)
    have HKB := Lib.hid ((HKA.out.trans HK4.out).trans k5)
    clear d0 d1 d2 d3 k5 HL4 HC1 HU1 HV1 HO1
    have hy9 : y.size ≤ 100000 := by omega
    go_wp2_with (go_at_call 12; ((with_reducible refine (refSeal_is y s1 _ hy9 HS1).mono ?_); rintro e' w6 ⟨rfl, k6⟩))
    have HDD := Lib.hid (keepRow k6 HDD.out)
    have HA3 := Lib.hid (HA3.out.keep k6)
    have HA1 := Lib.hid (HA1.out.keep k6)
    have HA4 := Lib.hid (HA4.out.keep k6)
    have HKC := Lib.hid (HKB.out.trans k6)
    clear k6
    have HIX : Hid (∀ j : Nat, j < 3 → ∃ s : ByteArray, ∀ wy, (Instr.index 32 (.agg #[.string y, .string s1, .string s2]) (.int .i64 (j : Int))).run Try.prog wy = .ok (.string s) wy) := Lib.hid fun j hj => by
      obtain rfl | rfl | rfl : j = 0 ∨ j = 1 ∨ j = 2 := by omega
      · exact ⟨y, fun wy => by kernel_rfl⟩
      · exact ⟨s1, fun wy => by kernel_rfl⟩
      · exact ⟨s2, fun wy => by kernel_rfl⟩
    go_loopw [63] (fun i wr => ∃ k : Nat, k ≤ 3 ∧ i = .int .i64 k ∧ Hid (Keep w6 wr)) (fun i _ => 3 - (intOf i).toNat)
    case atStart => exact ⟨0, by omega, rfl, Lib.hid (Keep.refl _)⟩
    case round =>
      obtain ⟨k, hk, rfl, HR⟩ := hrel
      by_cases hlt : k < 3
      · have hki : (k : Int) < 3 := by omega
        obtain ⟨s, hix⟩ := HIX.out k hlt
        have HDD := Lib.hid (keepRow HR.out HDD.out)
        have HA3 := Lib.hid (HA3.out.keep HR.out)
        have HA1 := Lib.hid (HA1.out.keep HR.out)
        have HA4 := Lib.hid (HA4.out.keep HR.out)
        have h82 : IntKind.i64.wrap (by8.tmod 2) = by8.tmod 2 := IntWalk.i64_in _ (by have h1 := Int.lt_tmod_of_pos by8 (show (0 : Int) < 2 by omega); have h2 := Int.tmod_lt_of_pos by8 (show (0 : Int) < 2 by omega); omega)
        go_wp2
        obtain ⟨Q, hQ⟩ : ∃ Q, wrap64 (wrap64 ((s2.size : Int) - 64) + by8.tmod 2) = Q := ⟨_, rfl⟩
        rw [hQ]
        clear hQ h82
        have k7 := (Keep.refl wr).alloc (.cells #[.int .i64 Q] 3)
        have HA5 := Lib.hid (lit1 wr Q 3 _ rfl)
        have HDD := Lib.hid (keepRow k7 HDD.out)
        have HA3 := Lib.hid (HA3.out.keep k7)
        have HA1 := Lib.hid (HA1.out.keep k7)
        have HA4 := Lib.hid (HA4.out.keep k7)
        have HR7 := Lib.hid (HR.out.trans k7)
        clear k7
        generalize (wr.alloc (.cells #[.int .i64 Q] 3)) = w7 at *
        generalize wr.heap.size = Z at *
        have HIY : Hid (∀ j : Nat, j < 5 → ∃ aa nn c9 zs, (∀ wy, (Instr.index 33 (.agg #[.slice c0 m cc, .slice a1 n1 cp1, .slice a12 K c12, .slice none 0 0, .slice (some ⟨Z, 0, none⟩) 1 1]) (.int .i64 (j : Int))).run Try.prog wy = .ok (.slice aa nn c9) wy) ∧ ListAt w7 (.slice aa nn c9) zs) := Lib.hid fun j hj => by
          obtain rfl | rfl | rfl | rfl | rfl : j = 0 ∨ j = 1 ∨ j = 2 ∨ j = 3 ∨ j = 4 := by omega
          · exact ⟨_, _, _, _, fun wy => by kernel_rfl, HA3.out⟩
          · exact ⟨_, _, _, _, fun wy => by kernel_rfl, HA1.out⟩
          · exact ⟨_, _, _, _, fun wy => by kernel_rfl, HA4.out⟩
          · exact ⟨_, _, _, _, fun wy => by kernel_rfl, .inl ⟨rfl, rfl⟩⟩
          · exact ⟨_, _, _, _, fun wy => by kernel_rfl, HA5.out⟩
        clear HA1 HA3 HA4 HA5
        go_loopw [78] (fun i wq => ∃ j : Nat, j ≤ 5 ∧ i = .int .i64 j ∧ Hid (Keep w7 wq)) (fun i _ => 5 - (intOf i).toNat)
        case atStart => exact ⟨0, by omega, rfl, Lib.hid (Keep.refl _)⟩
        case round =>
          obtain ⟨j, hj, rfl, HQ⟩ := hrel
          by_cases hlj : j < 5
          · have hji : (j : Int) < 5 := by omega
            obtain ⟨aa, nn, c9, zs, hiy, hrow⟩ := HIY.out j hlj
            have HROW := Lib.hid (hrow.keep HQ.out)
            obtain ⟨d0, d1, d2, d3⟩ := dr_cells (keepRow HQ.out HDD.out)
            obtain ⟨r, hr⟩ : ∃ r : Int, g % 4 = r := ⟨_, rfl⟩
            have hgx := HX.out.2.1
            have hr1 : g.tmod 4 = r := by rw [Int.tmod_eq_emod_of_nonneg hgx.1, hr]
            have hr2 : IntKind.u8.wrap r = r := by show r % 256 = r; omega
            have hr3 : IntKind.i64.wrap r = r := IntWalk.i64_in _ (by omega)
            clear hrow hgx
            go_wp2
            clear hr1 hr2 hr3
            have HIN : Hid (∀ i : Nat, i < 2 → ∃ nv : Int, ∀ wy, (Instr.index 34 (.agg #[.int .i64 num, .int .i64 r]) (.int .i64 (i : Int))).run Try.prog wy = .ok (.int .i64 nv) wy) := Lib.hid fun i hi => by
              obtain rfl | rfl : i = 0 ∨ i = 1 := by omega
              · exact ⟨num, fun wy => by kernel_rfl⟩
              · exact ⟨r, fun wy => by kernel_rfl⟩
            go_loopw [87] (fun i wt => ∃ q : Nat, q ≤ 2 ∧ i = .int .i64 q ∧ Hid (Keep wr wt)) (fun i _ => 2 - (intOf i).toNat)
            case atStart => exact ⟨0, by omega, rfl, Lib.hid (Keep.refl _)⟩
            case round =>
              obtain ⟨q, hq, rfl, HT⟩ := hrel
              by_cases hlq : q < 2
              · have hqi : (q : Int) < 2 := by omega
                obtain ⟨nv, hin⟩ := HIN.out q hlq
                obtain ⟨l, hl⟩ : ∃ l, cutL s nv zs = l := ⟨_, rfl⟩
                obtain ⟨E, hE⟩ : ∃ E, cutE s nv zs = E := ⟨_, rfl⟩
                have HL := Lib.hid hl
                have HE := Lib.hid hE
                have HROW := Lib.hid (HROW.out.keep HT.out)
                clear hl hE d0 d1 d2 d3
                go_wp2_with (first | (go_at_call 13; ((with_reducible refine (cut_is s nv _ zs l E _ HROW.out HL HE).mono ?_); rintro e' w8 ⟨u8, rfl, ho8, k8⟩)) | (go_at_call 14; ((with_reducible refine (refCut_is s nv _ zs l E _ (HROW.out.keep k8) HL HE).mono ?_); rintro e' w9 ⟨u9, rfl, ho9, k9⟩)) | (go_at_call 15; ((with_reducible refine (same_is u8 u9 l _ (ho8.row.keep k9) ho9.row).mono ?_); rintro e' w10 ⟨rfl, k10⟩)))
                go_roundw
                case rel => exact ⟨q + 1, by omega, by go_num, Lib.hid (((HT.out.trans k8).trans k9).trans k10)⟩
                case measure => simp [intOf]; omega
              · obtain rfl : q = 2 := by omega
                go_wp2
                go_roundw
                case rel => exact ⟨j + 1, by omega, by go_num, Lib.hid (HQ.out.trans HT.out)⟩
                case measure => simp [intOf]; omega
          · obtain rfl : j = 5 := by omega
            go_wp2
            go_roundw
            case rel => exact ⟨k + 1, by omega, by go_num, Lib.hid (HR7.out.trans HQ.out)⟩
            case measure => simp [intOf]; omega
      · obtain rfl : k = 3 := by omega
        go_wp2_with (go_at_call 16; ((with_reducible refine (works_any _).mono ?_); rintro e' w7 ⟨rfl, k7⟩))
        go_ret
        exact ⟨rfl, (HKC.out.trans HR.out).trans k7⟩
end Go.Proofs.Ytgejpbgpgklimaa
