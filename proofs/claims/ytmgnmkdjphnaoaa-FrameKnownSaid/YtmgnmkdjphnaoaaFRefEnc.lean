/- What the reference's number, Encode and Wire return. -/
import Derived.Test.YtmgnmkdjphnaoaaFRight
import Derived.Test.YtmgnmkdjphnaoaaLin
namespace Go.Proofs.Ytmgnmkdjphnaoaa
open Go Go.RowKit

def szOf : Value → Nat
  | .string s => s.size
  | _ => 0
theorem u8_wrap (x : Int) : IntKind.u8.wrap x = x % 256 := by
  first | rfl | simp [IntKind.wrap_u8] | (unfold IntKind.wrap; simp)
set_option maxRecDepth 100000 in
theorem refNum_any (n : Int) (m : Nat) (w : World) (hn : I64 n) (hm : m ≤ 8) : Calls Try.prog 31 #[.int .i64 n, .int .i64 m] w (Res (.string (encS n m)) w) := by
  go_enter Try.func31, Try.ntmps31
  go_wp2
  go_loopw [0, 5, 6] (fun x s i wr => ∃ j : Nat, j ≤ m ∧ i = .int .i64 j ∧ s = .string (encS n j) ∧ x = .int .i64 (n / 256 ^ j) ∧ Hid (Keep w wr)) (fun _ _ i _ => m - (intOf i).toNat)
  case atStart => exact ⟨0, Nat.zero_le _, rfl, rfl, by simp, Lib.hid (Keep.refl _)⟩
  case round =>
    obtain ⟨j, hj, rfl, rfl, rfl, HK⟩ := hrel
    by_cases hlt : j < m
    · have hx := div_in hn j
      have hand := u8_wrap (n / 256 ^ j)
      have hS := encS_succ n j
      have hss : (encS n j).size = j := encS_size n j
      have hd : byteOf n j = (n / 256 ^ j) % 256 := rfl
      have hnext : n / 256 ^ (j + 1) = (n / 256 ^ j) / 256 := by rw [Int.pow_succ, Int.ediv_mul, if_neg (fun h => by have := pow_pos j; omega), Int.add_zero]
      rw [hd] at hS
      clear hd
      generalize n / 256 ^ j = x at *
      generalize encS n j = t at *
      have hsz : ((⟨[toB (x % 256)].toArray⟩ : ByteArray)).size = 1 := rfl
      have hconv := byte_string (x % 256) wr _ rfl
      generalize (⟨[toB (x % 256)].toArray⟩ : ByteArray) = c at *
      unfold I64 at hx
      have HS := Lib.hid hS
      have HX := Lib.hid hnext
      clear hS hnext
      go_wp2
      go_roundw
      case rel => exact ⟨j + 1, by omega, by go_num, by rw [HS.out], by rw [HX.out], Lib.hid (HK.out.alloc _)⟩
      case measure => simp [intOf]; omega
    · obtain rfl : j = m := by omega
      generalize n / 256 ^ j = x
      obtain ⟨t, ht⟩ : ∃ t, encS n j = t := ⟨_, rfl⟩
      rw [ht]
      have HT := Lib.hid ht
      clear ht
      go_wp2
      go_ret
      exact ⟨by rw [HT.out]; rfl, HK.out⟩
theorem refNum_is (n k : Int) (m : Nat) (t : ByteArray) (w : World) (hn : I64 n) (hk : k = m) (h8 : m ≤ 8) (H : Hid (encS n m = t)) : Calls Try.prog 31 #[.int .i64 n, .int .i64 k] w (Res (.string t) w) := by
  have := refNum_any n m w hn h8
  subst hk
  rwa [H.out] at this
theorem enc_8100 : encS 33024 2 = ⟨#[129, 0]⟩ := by kernel_rfl
theorem enc_f1c1 : encS 61889 2 ++ encS 0 2 = ⟨#[241, 193, 0, 0]⟩ := by kernel_rfl
theorem hdK_size (y n) : (hdK y n).size = 2 := encS_size _ _

set_option maxRecDepth 100000 in
set_option maxHeartbeats 4000000 in
theorem refEncode_is (D S P V N Y : Int) (Tg Sq : Bool) (X t : ByteArray) (c : Int) (w : World) (HT : Hid (Frm.str ⟨D, S, Tg, P, V, Sq, N, Y, X⟩ = t)) (HC : Hid (Frm.err ⟨D, S, Tg, P, V, Sq, N, Y, X⟩ = c)) : Calls Try.prog 12 #[.agg #[.int .i64 D, .int .i64 S, .bool Tg, .int .i64 P, .int .i64 V, .bool Sq, .int .i64 N, .int .i64 Y, .string X]] w (Str t c w) := by
  have ht := HT.out
  have hc := HC.out
  cases hok : Frm.ok ⟨D, S, Tg, P, V, Sq, N, Y, X⟩ with
  | false =>
    rw [str_no hok] at ht
    rw [err_no hok] at hc
    subst ht hc
    have HO := Lib.hid hok
    clear HT hok HC
    go_enter Try.func12, Try.ntmps12
    go_wp2_with (go_at_call 30; ((with_reducible refine (right_is D S P V N Y Tg Sq X _ _ HO).mono ?_); rintro e' w1 ⟨rfl, k1⟩))
    go_ret2
    exact ⟨rfl, (((Keep.refl w).alloc _).trans k1)⟩
  | true =>
    rw [str_ok hok] at ht
    rw [err_ok hok] at hc
    subst hc
    have hx : X.size ≤ 1500 := ok_data _ hok
    obtain ⟨⟨hD, hS⟩, ⟨hP, hV, hN⟩, hY, -⟩ := (ok_iff _).1 hok
    dsimp only at hD hS hP hV hN hY
    have HO := Lib.hid hok
    clear hok HT HC
    have iD : Hid (I64 D) := Lib.hid (by unfold I64; omega)
    have iS : Hid (I64 S) := Lib.hid (by unfold I64; omega)
    have iY : Hid (I64 Y) := Lib.hid (by unfold I64; omega)
    have hpv : 0 ≤ P ∧ P ≤ 7 ∧ 0 ≤ V ∧ V ≤ 4094 ∧ 0 ≤ N ∧ N ≤ 65535 := by
      revert hP hV hN
      unfold only
      cases Tg <;> cases Sq <;> simp <;> omega
    have iN : Hid (I64 N) := Lib.hid (by unfold I64; omega)
    obtain ⟨pv, hpv2⟩ : ∃ p, P * 8192 + V = p := ⟨_, rfl⟩
    have iP : Hid (I64 pv) := Lib.hid (by unfold I64; omega)
    have hw1 : wrap64 (P * 8192) = P * 8192 := by unfold wrap64; omega
    have hw2 : wrap64 (P * 8192 + V) = pv := by rw [← hpv2]; unfold wrap64; omega
    have hw3 : wrap64 pv = pv := by unfold wrap64; omega
    obtain ⟨n, hn⟩ : ∃ n : Int, (X.size : Int) = n := ⟨_, rfl⟩
    have iX : Hid (I64 n) := Lib.hid (by unfold I64; omega)
    clear hD hS hP hV hN hpv hY
    obtain ⟨d6, hd6⟩ : ∃ s, encS D 6 = s := ⟨_, rfl⟩
    obtain ⟨s6, hs6⟩ : ∃ s, encS S 6 = s := ⟨_, rfl⟩
    have zd : d6.size = 6 := by rw [← hd6, encS_size]
    have zs : s6.size = 6 := by rw [← hs6, encS_size]
    have HD6 := Lib.hid hd6
    have HS6 := Lib.hid hs6
    obtain ⟨s1, h1⟩ : ∃ s, d6 ++ s6 = s := ⟨_, rfl⟩
    have H1 := Lib.hid h1
    have z1 : s1.size = 12 := by rw [← h1, ByteArray.size_append]; omega
    obtain ⟨s2, h2⟩ : ∃ s, s1 ++ hdT Tg P V = s := ⟨_, rfl⟩
    have H2 := Lib.hid h2
    have z2 : s2.size ≤ 16 := by rw [← h2, ByteArray.size_append, hdT_size]; split <;> omega
    obtain ⟨s3, h3⟩ : ∃ s, s2 ++ hdQ Sq N = s := ⟨_, rfl⟩
    have H3 := Lib.hid h3
    have z3 : s3.size ≤ 22 := by rw [← h3, ByteArray.size_append, hdQ_size]; split <;> omega
    obtain ⟨s4, h4⟩ : ∃ s, s3 ++ hdK Y n = s := ⟨_, rfl⟩
    have H4 := Lib.hid h4
    have z4 : s4.size ≤ 24 := by rw [← h4, ByteArray.size_append, hdK_size]; omega
    obtain ⟨u, hu⟩ : ∃ u, s4 ++ X = u := ⟨_, rfl⟩
    have HU := Lib.hid hu
    have zu : u.size = s4.size + X.size := by rw [← hu, ByteArray.size_append]
    have HSL : Hid (sealG (pad u) 0#32 = t) := Lib.hid (by
      rw [← ht]
      unfold Frm.enc Frm.hd hdA
      dsimp only
      rw [hn, hd6, hs6, h1, h2, h3, h4, hu])
    clear ht h1 h2 h3 h4 hu hd6 hs6
    have hbb : ¬ 9223372036854775807 < d6.size + s6.size := by omega
    have HBB := Lib.hid hbb
    clear hbb
    go_enter Try.func12, Try.ntmps12
    go_upto_region 1 with fail
    have c0 : (w.alloc (.cells #[.int .i64 D, .int .i64 S, .bool Tg, .int .i64 P, .int .i64 V, .bool Sq, .int .i64 N, .int .i64 Y, .string X] 23)).cell? ⟨w.heap.size, 0, none⟩ = some (.int .i64 D) := by simp [go_sem]
    have c1 : (w.alloc (.cells #[.int .i64 D, .int .i64 S, .bool Tg, .int .i64 P, .int .i64 V, .bool Sq, .int .i64 N, .int .i64 Y, .string X] 23)).cell? ⟨w.heap.size, 1, none⟩ = some (.int .i64 S) := by simp [go_sem]
    have c2 : (w.alloc (.cells #[.int .i64 D, .int .i64 S, .bool Tg, .int .i64 P, .int .i64 V, .bool Sq, .int .i64 N, .int .i64 Y, .string X] 23)).cell? ⟨w.heap.size, 2, none⟩ = some (.bool Tg) := by simp [go_sem]
    have c3 : (w.alloc (.cells #[.int .i64 D, .int .i64 S, .bool Tg, .int .i64 P, .int .i64 V, .bool Sq, .int .i64 N, .int .i64 Y, .string X] 23)).cell? ⟨w.heap.size, 3, none⟩ = some (.int .i64 P) := by simp [go_sem]
    have c4 : (w.alloc (.cells #[.int .i64 D, .int .i64 S, .bool Tg, .int .i64 P, .int .i64 V, .bool Sq, .int .i64 N, .int .i64 Y, .string X] 23)).cell? ⟨w.heap.size, 4, none⟩ = some (.int .i64 V) := by simp [go_sem]
    have c5 : (w.alloc (.cells #[.int .i64 D, .int .i64 S, .bool Tg, .int .i64 P, .int .i64 V, .bool Sq, .int .i64 N, .int .i64 Y, .string X] 23)).cell? ⟨w.heap.size, 5, none⟩ = some (.bool Sq) := by simp [go_sem]
    have c6 : (w.alloc (.cells #[.int .i64 D, .int .i64 S, .bool Tg, .int .i64 P, .int .i64 V, .bool Sq, .int .i64 N, .int .i64 Y, .string X] 23)).cell? ⟨w.heap.size, 6, none⟩ = some (.int .i64 N) := by simp [go_sem]
    have c7 : (w.alloc (.cells #[.int .i64 D, .int .i64 S, .bool Tg, .int .i64 P, .int .i64 V, .bool Sq, .int .i64 N, .int .i64 Y, .string X] 23)).cell? ⟨w.heap.size, 7, none⟩ = some (.int .i64 Y) := by simp [go_sem]
    have c8 : (w.alloc (.cells #[.int .i64 D, .int .i64 S, .bool Tg, .int .i64 P, .int .i64 V, .bool Sq, .int .i64 N, .int .i64 Y, .string X] 23)).cell? ⟨w.heap.size, 8, none⟩ = some (.string X) := by simp [go_sem]
    have K0 := Lib.hid ((Keep.refl w).alloc (.cells #[.int .i64 D, .int .i64 S, .bool Tg, .int .i64 P, .int .i64 V, .bool Sq, .int .i64 N, .int .i64 Y, .string X] 23))
    generalize (w.alloc (.cells #[.int .i64 D, .int .i64 S, .bool Tg, .int .i64 P, .int .i64 V, .bool Sq, .int .i64 N, .int .i64 Y, .string X] 23)) = w0 at *
    generalize w.heap.size = B at *
    go_upto_region 3 with (go_at_call 30; ((with_reducible refine (right_is D S P V N Y Tg Sq X _ _ HO).mono ?_); rintro e' w1 ⟨rfl, k1⟩; have c0 := k1.some c0; have c1 := k1.some c1; have c2 := k1.some c2; have c3 := k1.some c3; have c4 := k1.some c4; have c5 := k1.some c5; have c6 := k1.some c6; have c7 := k1.some c7; have c8 := k1.some c8))
    have K1 := Lib.hid (K0.out.trans k1)
    clear k1 K0
    refine region_lin (W0 := w1) (listF [fun v ww => v = .pointer (some ⟨B, 0, none⟩), fun v ww => v = .int .i64 D, fun v ww => v = .string d6, fun v ww => v = .pointer (some ⟨B, 1, none⟩), fun v ww => v = .int .i64 S, fun v ww => v = .string s6, fun v ww => v = .string s1, fun v ww => v = .string s1]) (listF_stable _ ⟨fun _ _ _ _ h => h, fun _ _ _ _ h => h, fun _ _ _ _ h => h, fun _ _ _ _ h => h, fun _ _ _ _ h => h, fun _ _ _ _ h => h, fun _ _ _ _ h => h, fun _ _ _ _ h => h, trivial⟩) (by kernel_rfl) (by kernel_rfl) (by kernel_rfl) (by kernel_rfl) (Keep.refl _) ?done3 ?steps3
    case done3 =>
      intro T3 wz3 hJ
      obtain ⟨x0, t0, f0⟩ := hJ.fact 0 8 (by decide) (by kernel_rfl)
      obtain rfl : x0 = .pointer (some ⟨B, 0, none⟩) := f0
      obtain ⟨x1, t1, f1⟩ := hJ.fact 1 9 (by decide) (by kernel_rfl)
      obtain rfl : x1 = .int .i64 D := f1
      obtain ⟨x2, t2, f2⟩ := hJ.fact 2 10 (by decide) (by kernel_rfl)
      obtain rfl : x2 = .string d6 := f2
      obtain ⟨x3, t3, f3⟩ := hJ.fact 3 11 (by decide) (by kernel_rfl)
      obtain rfl : x3 = .pointer (some ⟨B, 1, none⟩) := f3
      obtain ⟨x4, t4, f4⟩ := hJ.fact 4 12 (by decide) (by kernel_rfl)
      obtain rfl : x4 = .int .i64 S := f4
      obtain ⟨x5, t5, f5⟩ := hJ.fact 5 13 (by decide) (by kernel_rfl)
      obtain rfl : x5 = .string s6 := f5
      obtain ⟨x6, t6, f6⟩ := hJ.fact 6 14 (by decide) (by kernel_rfl)
      obtain rfl : x6 = .string s1 := f6
      obtain ⟨x7, t7, f7⟩ := hJ.fact 7 4 (by decide) (by kernel_rfl)
      obtain rfl : x7 = .string s1 := f7
      have hfr := hJ.frame [(8, .pointer (some ⟨B, 0, none⟩)), (9, .int .i64 D), (10, .string d6), (11, .pointer (some ⟨B, 1, none⟩)), (12, .int .i64 S), (13, .string s6), (14, .string s1), (4, .string s1)] (by simp [t0, t1, t2, t3, t4, t5, t6, t7]) (by kernel_rfl)
      have G := hJ.keep
      clear hJ t0 t1 t2 t3 t4 t5 t6 t7
      rw [hfr]
      clear hfr T3
      simp only [List.foldl_cons, List.foldl_nil, List.setIfInBounds_toArray, List.set_cons_zero, List.set_cons_succ]
      have K2 := Lib.hid (K1.out.trans G)
      have c0 := G.some c0; have c1 := G.some c1; have c2 := G.some c2; have c3 := G.some c3; have c4 := G.some c4; have c5 := G.some c5; have c6 := G.some c6; have c7 := G.some c7; have c8 := G.some c8
      clear G
      go_upto_if 16 with fail
      go_cut [4] (fun v wx => v = .string s2 ∧ Hid (Keep w wx) ∧ wx.cell? ⟨B, 5, none⟩ = some (.bool Sq) ∧ wx.cell? ⟨B, 6, none⟩ = some (.int .i64 N) ∧ wx.cell? ⟨B, 7, none⟩ = some (.int .i64 Y) ∧ wx.cell? ⟨B, 8, none⟩ = some (.string X))
      case first =>
        cases Tg with
        | true =>
          obtain ⟨a1, ha1⟩ : ∃ s, s1 ++ (⟨#[129, 0]⟩ : ByteArray) = s := ⟨_, rfl⟩
          have z5 : a1.size = 14 := by rw [← ha1, ByteArray.size_append, z1]; rfl
          obtain ⟨e5, he5⟩ : ∃ s, encS pv 2 = s := ⟨_, rfl⟩
          have z6 : e5.size = 2 := by rw [← he5, encS_size]
          have hs2 : a1 ++ e5 = s2 := by
            rw [← H2.out, ← ha1, ← he5, ← hpv2]
            unfold hdT
            rw [if_pos rfl, enc_8100, ByteArray.append_assoc]
          have HE5 := Lib.hid he5
          have hsz : (⟨#[129, 0]⟩ : ByteArray).size = 2 := rfl
          clear he5
          go_wp2_with (go_at_call 31; ((with_reducible refine (refNum_is pv 2 2 e5 _ iP.out rfl (by decide) HE5).mono ?_); rintro e' w3 ⟨rfl, kk⟩; have c5 := kk.some c5; have c6 := kk.some c6; have c7 := kk.some c7; have c8 := kk.some c8; have K2 := Lib.hid (K2.out.trans kk); clear kk))
          go_meet
          exact ⟨rfl, K2, c5, c6, c7, c8⟩
        | false =>
          have hs2 : s1 = s2 := by rw [← H2.out]; unfold hdT; simp [add_nil]
          go_wp2
          go_meet
          exact ⟨by rw [hs2], K2, c5, c6, c7, c8⟩
      case rest =>
        clear K2 c0 c1 c2 c3 c4 c5 c6 c7 c8 z1
        obtain ⟨rfl, K2, c5, c6, c7, c8⟩ := hcut
        go_upto_if 28 with fail
        go_cut [4] (fun v wx => v = .string s3 ∧ Hid (Keep w wx) ∧ wx.cell? ⟨B, 7, none⟩ = some (.int .i64 Y) ∧ wx.cell? ⟨B, 8, none⟩ = some (.string X))
        case first =>
          cases Sq with
          | true =>
            obtain ⟨a1, ha1⟩ : ∃ s, s2 ++ (⟨#[241, 193, 0, 0]⟩ : ByteArray) = s := ⟨_, rfl⟩
            have z5 : a1.size ≤ 20 := by rw [← ha1, ByteArray.size_append]; have : (⟨#[241, 193, 0, 0]⟩ : ByteArray).size = 4 := rfl; omega
            obtain ⟨e5, he5⟩ : ∃ s, encS N 2 = s := ⟨_, rfl⟩
            have z6 : e5.size = 2 := by rw [← he5, encS_size]
            have hs3 : a1 ++ e5 = s3 := by
              rw [← H3.out, ← ha1, ← he5]
              unfold hdQ
              rw [if_pos rfl, enc_f1c1, ByteArray.append_assoc]
            have HE5 := Lib.hid he5
            have hsz : (⟨#[241, 193, 0, 0]⟩ : ByteArray).size = 4 := rfl
            clear he5
            go_wp2_with (go_at_call 31; ((with_reducible refine (refNum_is N 2 2 e5 _ iN.out rfl (by decide) HE5).mono ?_); rintro e' w3 ⟨rfl, kk⟩; have c7 := kk.some c7; have c8 := kk.some c8; have K2 := Lib.hid (K2.out.trans kk); clear kk))
            go_meet
            exact ⟨rfl, K2, c7, c8⟩
          | false =>
            have hs3 : s2 = s3 := by rw [← H3.out]; unfold hdQ; simp [add_nil]
            go_wp2
            go_meet
            exact ⟨by rw [hs3], K2, c7, c8⟩
        case rest =>
          clear K2 c5 c6 c7 c8
          obtain ⟨rfl, K2, c7, c8⟩ := hcut
          go_upto_if 37 with fail
          go_cut [4] (fun v wx => v = .string s4 ∧ Hid (Keep w wx) ∧ wx.cell? ⟨B, 8, none⟩ = some (.string X))
          case first =>
            by_cases hy : Y = 0
            · subst hy
              obtain ⟨e5, he5⟩ : ∃ s, encS n 2 = s := ⟨_, rfl⟩
              have z6 : e5.size = 2 := by rw [← he5, encS_size]
              have hs4 : s3 ++ e5 = s4 := by rw [← H4.out, ← he5]; unfold hdK; rw [if_pos rfl]
              have HE5 := Lib.hid he5
              clear he5
              go_wp2_with (go_at_call 31; ((with_reducible refine (refNum_is n 2 2 e5 _ iX.out rfl (by decide) HE5).mono ?_); rintro e' w3 ⟨rfl, kk⟩; have c8 := kk.some c8; have K2 := Lib.hid (K2.out.trans kk); clear kk))
              go_meet
              exact ⟨rfl, K2, c8⟩
            · have hyb : (Y == 0) = false := by simp [hy]
              obtain ⟨e5, he5⟩ : ∃ s, encS Y 2 = s := ⟨_, rfl⟩
              have z6 : e5.size = 2 := by rw [← he5, encS_size]
              have hs4 : s3 ++ e5 = s4 := by rw [← H4.out, ← he5]; unfold hdK; rw [if_neg hy]
              have HE5 := Lib.hid he5
              clear he5
              go_wp2_with (go_at_call 31; ((with_reducible refine (refNum_is Y 2 2 e5 _ iY.out rfl (by decide) HE5).mono ?_); rintro e' w3 ⟨rfl, kk⟩; have c8 := kk.some c8; have K2 := Lib.hid (K2.out.trans kk); clear kk))
              go_meet
              exact ⟨rfl, K2, c8⟩
          case rest =>
            clear K2 c7 c8
            obtain ⟨rfl, K2, c8⟩ := hcut
            have hu := HU.out
            go_wp2
            clear hu
            obtain ⟨m, hm⟩ : ∃ m, 60 - u.size = m := ⟨_, rfl⟩
            go_loop [4] (fun v => ∃ j : Nat, j ≤ m ∧ v = .string (u ++ zeros j)) (fun v => 60 - szOf v)
            case atStart => exact ⟨0, by omega, by rw [show u ++ zeros 0 = u from add_nil u]⟩
            case round =>
              obtain ⟨j, hj, rfl⟩ := hrel
              obtain ⟨y, hy⟩ : ∃ y, u ++ zeros j = y := ⟨_, rfl⟩
              have zy : y.size = u.size + j := by rw [← hy, ByteArray.size_append, zeros_size]
              rw [hy]
              by_cases hlt : j < m
              · have hnx : u ++ zeros (j + 1) = y ++ ⟨#[0]⟩ := by rw [← zeros_succ, ← ByteArray.append_assoc, hy]
                have hsz : (⟨#[0]⟩ : ByteArray).size = 1 := rfl
                have HNX := Lib.hid hnx
                clear hnx hy
                go_wp2
                go_round
                case rel => exact ⟨j + 1, by omega, by rw [HNX.out]⟩
                case measure => simp [szOf]; omega
              · obtain rfl : j = m := by omega
                have hp : pad u = y := by unfold pad; rw [hm, hy]
                have HP : Hid (sealG y 0#32 = t) := Lib.hid (by rw [← hp]; exact HSL.out)
                have hys : y.size ≤ 100000 := by omega
                have HYS := Lib.hid hys
                clear hp hy
                go_wp2_with (go_at_call 18; ((with_reducible refine (refSeal_is y t _ HYS.out HP).mono ?_); rintro e' w6 ⟨rfl, k6⟩))
                go_ret2
                exact ⟨rfl, K2.out.trans k6⟩
    case steps3 =>
      refine LinSteps.cons (k := 0) ?_ (LinSteps.cons (k := 1) ?_ (LinSteps.cons (k := 2) ?_ (LinSteps.cons (k := 3) ?_ (LinSteps.cons (k := 4) ?_ (LinSteps.cons (k := 5) ?_ (LinSteps.cons (k := 6) ?_ (LinSteps.cons (k := 7) ?_ (LinSteps.nil))))))))
      · -- 0
        refine LinStep.plain rfl ?_
        intro QQ bb T ww hn hJ hd K HK
        have s1 := (hJ.oldSlot 1 (by kernel_rfl))
        simp only [List.getElem?_toArray, List.getElem?_cons_zero, List.getElem?_cons_succ] at s1
        have G := hJ.keep
        clear hJ hd hn
        go_simp
        exact HK.out _ _ (Keep.refl _) rfl
      · -- 1
        refine LinStep.plain rfl ?_
        intro QQ bb T ww hn hJ hd K HK
        obtain ⟨x0, t0, f0⟩ := hJ.dep hd 0 8 (by kernel_rfl) (by kernel_rfl)
        obtain rfl : x0 = .pointer (some ⟨B, 0, none⟩) := f0
        have G := hJ.keep
        clear hJ hd hn
        have k0 := G.some c0
        go_simp
        exact HK.out _ _ (Keep.refl _) rfl
      · -- 2
        refine LinStep.plain rfl ?_
        intro QQ bb T ww hn hJ hd K HK
        obtain ⟨x1, t1, f1⟩ := hJ.dep hd 1 9 (by kernel_rfl) (by kernel_rfl)
        obtain rfl : x1 = .int .i64 D := f1
        have G := hJ.keep
        clear hJ hd hn
        go_wp2_with (go_at_call 31; ((with_reducible refine (refNum_is D 6 6 d6 _ iD.out rfl (by decide) HD6).mono ?_); rintro e' w2 ⟨rfl, hk⟩))
        exact HK.out _ _ hk rfl
      · -- 3
        refine LinStep.plain rfl ?_
        intro QQ bb T ww hn hJ hd K HK
        have s1 := (hJ.oldSlot 1 (by kernel_rfl))
        simp only [List.getElem?_toArray, List.getElem?_cons_zero, List.getElem?_cons_succ] at s1
        have G := hJ.keep
        clear hJ hd hn
        go_simp
        exact HK.out _ _ (Keep.refl _) rfl
      · -- 4
        refine LinStep.plain rfl ?_
        intro QQ bb T ww hn hJ hd K HK
        obtain ⟨x3, t3, f3⟩ := hJ.dep hd 3 11 (by kernel_rfl) (by kernel_rfl)
        obtain rfl : x3 = .pointer (some ⟨B, 1, none⟩) := f3
        have G := hJ.keep
        clear hJ hd hn
        have k0 := G.some c1
        go_simp
        exact HK.out _ _ (Keep.refl _) rfl
      · -- 5
        refine LinStep.plain rfl ?_
        intro QQ bb T ww hn hJ hd K HK
        obtain ⟨x4, t4, f4⟩ := hJ.dep hd 4 12 (by kernel_rfl) (by kernel_rfl)
        obtain rfl : x4 = .int .i64 S := f4
        have G := hJ.keep
        clear hJ hd hn
        go_wp2_with (go_at_call 31; ((with_reducible refine (refNum_is S 6 6 s6 _ iS.out rfl (by decide) HS6).mono ?_); rintro e' w2 ⟨rfl, hk⟩))
        exact HK.out _ _ hk rfl
      · -- 6
        refine LinStep.plain rfl ?_
        intro QQ bb T ww hn hJ hd K HK
        obtain ⟨x2, t2, f2⟩ := hJ.dep hd 2 10 (by kernel_rfl) (by kernel_rfl)
        obtain rfl : x2 = .string d6 := f2
        obtain ⟨x5, t5, f5⟩ := hJ.dep hd 5 13 (by kernel_rfl) (by kernel_rfl)
        obtain rfl : x5 = .string s6 := f5
        have G := hJ.keep
        clear hJ hd hn
        have h1 := H1.out
        have hbb := HBB.out
        have zd' := zd
        have zs' := zs
        go_simp
        exact HK.out _ _ (Keep.refl _) rfl
      · -- 7
        refine LinStep.plain rfl ?_
        intro QQ bb T ww hn hJ hd K HK
        obtain ⟨x6, t6, f6⟩ := hJ.dep hd 6 14 (by kernel_rfl) (by kernel_rfl)
        obtain rfl : x6 = .string s1 := f6
        have G := hJ.keep
        clear hJ hd hn
        go_simp
        exact HK.out _ _ (Keep.refl _) rfl
set_option maxRecDepth 100000 in
theorem refWire_is (D S P V N Y : Int) (Tg Sq : Bool) (X : ByteArray) (n c : Int) (w : World) (HN : Hid (Frm.wire ⟨D, S, Tg, P, V, Sq, N, Y, X⟩ = n)) (HC : Hid (Frm.err ⟨D, S, Tg, P, V, Sq, N, Y, X⟩ = c)) : Calls Try.prog 14 #[.agg #[.int .i64 D, .int .i64 S, .bool Tg, .int .i64 P, .int .i64 V, .bool Sq, .int .i64 N, .int .i64 Y, .string X]] w (Num n c w) := by
  obtain ⟨t, ht⟩ : ∃ t, Frm.str ⟨D, S, Tg, P, V, Sq, N, Y, X⟩ = t := ⟨_, rfl⟩
  have HT := Lib.hid ht
  have hn := HN.out
  have hc := HC.out
  unfold Frm.wire at hn
  cases hok : Frm.ok ⟨D, S, Tg, P, V, Sq, N, Y, X⟩ with
  | false =>
    rw [hok, if_neg (by decide)] at hn
    rw [err_no hok] at hc
    subst hn hc
    clear ht HN hok
    go_enter Try.func14, Try.ntmps14
    go_wp2_with (go_at_call 12; ((with_reducible refine (refEncode_is D S P V N Y Tg Sq X t _ _ HT HC).mono ?_); rintro e' w1 ⟨rfl, k1⟩))
    go_ret2
    exact ⟨rfl, (((Keep.refl w).alloc _).trans k1)⟩
  | true =>
    have hs := ht
    rw [str_ok hok] at hs
    rw [hok, if_pos rfl, hs] at hn
    rw [err_ok hok] at hc
    subst hc
    have hx : X.size ≤ 1500 := ok_data _ hok
    have hl := hd_le ⟨D, S, Tg, P, V, Sq, N, Y, X⟩
    have hz := enc_sz ⟨D, S, Tg, P, V, Sq, N, Y, X⟩
    rw [hs] at hz
    dsimp only at hz
    have hts : t.size ≤ 2000 := by omega
    clear ht hs HN hok hz hl
    go_enter Try.func14, Try.ntmps14
    go_wp2_with (go_at_call 12; ((with_reducible refine (refEncode_is D S P V N Y Tg Sq X t _ _ HT HC).mono ?_); rintro e' w1 ⟨rfl, k1⟩))
    go_ret2
    exact ⟨by rw [← hn]; rfl, (((Keep.refl w).alloc _).trans k1)⟩
end Go.Proofs.Ytmgnmkdjphnaoaa
