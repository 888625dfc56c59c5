/- WireBack answers true for every input. -/
import Derived.Test.YtbmbcokfohgggaaWWorks
import Derived.Test.YtbmbcokfohgggaaBackMath
import Derived.Deep.Cut
import Derived.Deep.DeepCutAuto
namespace Go.Proofs.Ytbmbcokfohgggaa
open Go Go.RowKit

set_option maxRecDepth 100000 in
set_option maxHeartbeats 4000000 in
theorem lawBack_any (s : ByteArray) (n p : Int) (r : ByteArray) (w : World) (hs : s.size ≤ maxLen) (hn : I64 n) (hp : 0 ≤ p ∧ p ≤ 255) (hr : r.size ≤ maxLen) : Calls Try.prog 5 #[.string s, .int .i64 n, .int .u8 p, .string r] w (Res (.bool true) w) := by
  obtain ⟨c, hc, hc0, hc1⟩ : ∃ c, p.tmod 7 = c ∧ 0 ≤ c ∧ c < 7 := by
    refine ⟨_, rfl, ?_, ?_⟩ <;> rw [Int.tmod_eq_emod_of_nonneg hp.1] <;> omega
  unfold maxLen at hs hr
  have HN := Lib.hid hn
  clear hn
  go_enter Try.func5, Try.ntmps5
  go_upto_region 3 with (go_at_call 12; ((with_reducible refine (works_any _).mono ?_); rintro e' w9 ⟨rfl, k9⟩))
  go_cut [0, 3] (fun a b wx => ∃ s' r' : ByteArray, a = .string s' ∧ b = .string r' ∧ s'.size ≤ 20 ∧ r'.size ≤ 20 ∧ Hid (Keep w wx))
  case first =>
    obtain ⟨a2, ha2⟩ : ∃ x, s.extract 0 20 = x := ⟨_, rfl⟩
    obtain ⟨b2, hb2⟩ : ∃ x, r.extract 0 20 = x := ⟨_, rfl⟩
    have za : a2.size ≤ 20 := by rw [← ha2, ByteArray.size_extract]; omega
    have zb : b2.size ≤ 20 := by rw [← hb2, ByteArray.size_extract]; omega
    by_cases h20 : (s.size : Int) ≤ 20
    · by_cases g20 : (r.size : Int) ≤ 20
      · go_region
        all_goals go_wp2
        all_goals go_meet
        all_goals exact ⟨_, _, rfl, rfl, by omega, by omega, Lib.hid (Keep.drew k9)⟩
      · go_region
        all_goals go_wp2
        all_goals go_meet
        all_goals exact ⟨_, _, rfl, rfl, by omega, zb, Lib.hid (Keep.drew k9)⟩
    · by_cases g20 : (r.size : Int) ≤ 20
      · go_region
        all_goals go_wp2
        all_goals go_meet
        all_goals exact ⟨_, _, rfl, rfl, za, by omega, Lib.hid (Keep.drew k9)⟩
      · go_region
        all_goals go_wp2
        all_goals go_meet
        all_goals exact ⟨_, _, rfl, rfl, za, zb, Lib.hid (Keep.drew k9)⟩
  case rest =>
    obtain ⟨s', r', rfl, rfl, h1, h2, HK⟩ := hcut
    go_upto_region 4 with fail
    go_cut [9] (fun v wx => ∃ K : Int, v = .int .i64 K ∧ 1 ≤ K ∧ K ≤ 7 ∧ Hid (Keep w wx))
    case first =>
      go_wp2
      go_meet
      exact ⟨_, rfl, by omega, by omega, HK⟩
    case rest =>
    obtain ⟨K, rfl, hK1, hK7, HK⟩ := hcut
    clear hc hc0 hc1
    go_upto_region 5 with fail
    go_cut [10] (fun v wx => ∃ m : Int, v = .int .i64 m ∧ Hid (0 ≤ m ∧ m < 256 ^ K.toNat) ∧ Hid (Keep w wx))
    case first =>
      obtain rfl | rfl | rfl | rfl | rfl | rfl | rfl : K = 1 ∨ K = 2 ∨ K = 3 ∨ K = 4 ∨ K = 5 ∨ K = 6 ∨ K = 7 := by omega
      · obtain ⟨x, hx, hx0, hx1⟩ : ∃ x, (IntKind.u64.wrap n).tmod 256 = x ∧ 0 ≤ x ∧ x < 256 := by
          have h := wrap_u64_nonneg n
          refine ⟨_, rfl, ?_, ?_⟩ <;> rw [Int.tmod_eq_emod_of_nonneg h] <;> omega
        go_wp2
        go_meet
        exact ⟨x, rfl, Lib.hid ⟨hx0, by simpa using hx1⟩, HK⟩
      · obtain ⟨x, hx, hx0, hx1⟩ : ∃ x, (IntKind.u64.wrap n).tmod 65536 = x ∧ 0 ≤ x ∧ x < 65536 := by
          have h := wrap_u64_nonneg n
          refine ⟨_, rfl, ?_, ?_⟩ <;> rw [Int.tmod_eq_emod_of_nonneg h] <;> omega
        go_wp2
        go_meet
        exact ⟨x, rfl, Lib.hid ⟨hx0, by simpa using hx1⟩, HK⟩
      · obtain ⟨x, hx, hx0, hx1⟩ : ∃ x, (IntKind.u64.wrap n).tmod 16777216 = x ∧ 0 ≤ x ∧ x < 16777216 := by
          have h := wrap_u64_nonneg n
          refine ⟨_, rfl, ?_, ?_⟩ <;> rw [Int.tmod_eq_emod_of_nonneg h] <;> omega
        go_wp2
        go_meet
        exact ⟨x, rfl, Lib.hid ⟨hx0, by simpa using hx1⟩, HK⟩
      · obtain ⟨x, hx, hx0, hx1⟩ : ∃ x, (IntKind.u64.wrap n).tmod 4294967296 = x ∧ 0 ≤ x ∧ x < 4294967296 := by
          have h := wrap_u64_nonneg n
          refine ⟨_, rfl, ?_, ?_⟩ <;> rw [Int.tmod_eq_emod_of_nonneg h] <;> omega
        go_wp2
        go_meet
        exact ⟨x, rfl, Lib.hid ⟨hx0, by simpa using hx1⟩, HK⟩
      · obtain ⟨x, hx, hx0, hx1⟩ : ∃ x, (IntKind.u64.wrap n).tmod 1099511627776 = x ∧ 0 ≤ x ∧ x < 1099511627776 := by
          have h := wrap_u64_nonneg n
          refine ⟨_, rfl, ?_, ?_⟩ <;> rw [Int.tmod_eq_emod_of_nonneg h] <;> omega
        go_wp2
        go_meet
        exact ⟨x, rfl, Lib.hid ⟨hx0, by simpa using hx1⟩, HK⟩
      · obtain ⟨x, hx, hx0, hx1⟩ : ∃ x, (IntKind.u64.wrap n).tmod 281474976710656 = x ∧ 0 ≤ x ∧ x < 281474976710656 := by
          have h := wrap_u64_nonneg n
          refine ⟨_, rfl, ?_, ?_⟩ <;> rw [Int.tmod_eq_emod_of_nonneg h] <;> omega
        go_wp2
        go_meet
        exact ⟨x, rfl, Lib.hid ⟨hx0, by simpa using hx1⟩, HK⟩
      · obtain ⟨x, hx, hx0, hx1⟩ : ∃ x, (IntKind.u64.wrap n).tmod 72057594037927936 = x ∧ 0 ≤ x ∧ x < 72057594037927936 := by
          have h := wrap_u64_nonneg n
          refine ⟨_, rfl, ?_, ?_⟩ <;> rw [Int.tmod_eq_emod_of_nonneg h] <;> omega
        go_wp2
        go_meet
        exact ⟨x, rfl, Lib.hid ⟨hx0, by simpa using hx1⟩, HK⟩
    case rest =>
    obtain ⟨m, rfl, HM, HK⟩ := hcut
    have HT : Hid (putS s' m K = s' ++ encS m K.toNat) := Lib.hid (put_within s' m K ⟨hK1, hK7⟩ HM.out).2
    have HT0 : Hid (putE m K = 0) := Lib.hid (put_within s' m K ⟨hK1, hK7⟩ HM.out).1
    have h8 : -(256 ^ (8 : Int).toNat) ≤ 2 * n ∧ 2 * n < 256 ^ (8 : Int).toNat := by have := HN.out; unfold I64 at this; simp only [Int.reduceToNat, Int.reducePow]; omega
    have HU : Hid (sputS s' n 8 = s' ++ encS n (8 : Int).toNat) := Lib.hid (putSigned_within s' n 8 ⟨by omega, by omega⟩ h8).2
    have HU0 : Hid (sputE n 8 = 0) := Lib.hid (putSigned_within s' n 8 ⟨by omega, by omega⟩ h8).1
    have H8 := Lib.hid h8
    clear h8
    generalize ht : s' ++ encS m K.toNat = t at HT
    generalize hu : s' ++ encS n (8 : Int).toNat = u at HU
    have HT' := Lib.hid ht
    have HU' := Lib.hid hu
    clear ht hu
    have HS : Hid (s'.size ≤ 1000) := Lib.hid (by omega)
    go_upto_region 8 with (first | (go_at_call 8; ((with_reducible refine (wput_is s' m K t 0 _ HS.out HT HT0).mono ?_); rintro e' w1 ⟨rfl, k1⟩)) | (go_at_call 10; ((with_reducible refine (wputSigned_is s' n 8 u 0 _ HS.out HU HU0).mono ?_); rintro e' w2 ⟨rfl, k2⟩)))
    go_cut [15] (fun v wx => ∃ z : Int, v = .int .i64 z ∧ Hid (-(256 ^ K.toNat) ≤ 2 * z ∧ 2 * z < 256 ^ K.toNat) ∧ Hid (Keep w wx))
    case first =>
      obtain rfl | rfl | rfl | rfl | rfl | rfl | rfl : K = 1 ∨ K = 2 ∨ K = 3 ∨ K = 4 ∨ K = 5 ∨ K = 6 ∨ K = 7 := by omega
      · go_wp2
        go_meet
        exact ⟨n / 72057594037927936, rfl, Lib.hid (by have := HN.out; unfold I64 at this; simp only [Int.reduceToNat, Int.reducePow]; omega), Lib.hid (HK.out.trans (k1.trans k2))⟩
      · go_wp2
        go_meet
        exact ⟨n / 281474976710656, rfl, Lib.hid (by have := HN.out; unfold I64 at this; simp only [Int.reduceToNat, Int.reducePow]; omega), Lib.hid (HK.out.trans (k1.trans k2))⟩
      · go_wp2
        go_meet
        exact ⟨n / 1099511627776, rfl, Lib.hid (by have := HN.out; unfold I64 at this; simp only [Int.reduceToNat, Int.reducePow]; omega), Lib.hid (HK.out.trans (k1.trans k2))⟩
      · go_wp2
        go_meet
        exact ⟨n / 4294967296, rfl, Lib.hid (by have := HN.out; unfold I64 at this; simp only [Int.reduceToNat, Int.reducePow]; omega), Lib.hid (HK.out.trans (k1.trans k2))⟩
      · go_wp2
        go_meet
        exact ⟨n / 16777216, rfl, Lib.hid (by have := HN.out; unfold I64 at this; simp only [Int.reduceToNat, Int.reducePow]; omega), Lib.hid (HK.out.trans (k1.trans k2))⟩
      · go_wp2
        go_meet
        exact ⟨n / 65536, rfl, Lib.hid (by have := HN.out; unfold I64 at this; simp only [Int.reduceToNat, Int.reducePow]; omega), Lib.hid (HK.out.trans (k1.trans k2))⟩
      · go_wp2
        go_meet
        exact ⟨n / 256, rfl, Lib.hid (by have := HN.out; unfold I64 at this; simp only [Int.reduceToNat, Int.reducePow]; omega), Lib.hid (HK.out.trans (k1.trans k2))⟩
    case rest =>
    obtain ⟨z, rfl, HZ, HK⟩ := hcut
    have HV : Hid (sputS s' z K = s' ++ encS z K.toNat) := Lib.hid (putSigned_within s' z K ⟨by omega, by omega⟩ HZ.out).2
    have HV0 : Hid (sputE z K = 0) := Lib.hid (putSigned_within s' z K ⟨by omega, by omega⟩ HZ.out).1
    generalize hv : s' ++ encS z K.toNat = v at HV
    have HV' := Lib.hid hv
    -- the lengths
    have st : (t.size : Int) = s'.size + K := by rw [← HT'.out, ByteArray.size_append, encS_size]; omega
    have su : (u.size : Int) = s'.size + 8 := by rw [← HU'.out, ByteArray.size_append, encS_size]; omega
    have sv : (v.size : Int) = s'.size + K := by rw [← HV'.out, ByteArray.size_append, encS_size]; omega
    -- what is read
    obtain ⟨tr, htr⟩ : ∃ x, t ++ r' = x := ⟨_, rfl⟩
    obtain ⟨ur, hur⟩ : ∃ x, u ++ r' = x := ⟨_, rfl⟩
    obtain ⟨vr, hvr⟩ : ∃ x, v ++ r' = x := ⟨_, rfl⟩
    have gu := back_getSigned s' r' n 8 ⟨by omega, by omega⟩ H8.out
    have gv := back_getSigned s' r' z K ⟨hK1, by omega⟩ HZ.out
    have gt := back_get s' r' m K ⟨hK1, hK7⟩ HM.out
    have ft := back_fieldS s' (encS m K.toNat) r' K (enc_size m K (by omega))
    have fe := back_fieldE s' (encS m K.toNat) r' K (enc_size m K (by omega))
    have f0 := front_fieldS s' (encS m K.toNat) r'
    have fe0 := front_fieldE s' (encS m K.toNat) r'
    have he := back_end s' (encS m K.toNat)
    rw [HT'.out, htr] at gt ft fe f0 fe0
    rw [HU'.out, hur] at gu
    rw [hv, hvr] at gv
    rw [HT'.out] at he
    have zt : tr.size ≤ maxLen := by rw [← htr, ByteArray.size_append]; unfold maxLen; omega
    have zu : ur.size ≤ maxLen := by rw [← hur, ByteArray.size_append]; unfold maxLen; omega
    have zv : vr.size ≤ maxLen := by rw [← hvr, ByteArray.size_append]; unfold maxLen; omega
    have A1 := Lib.hid gu.1
    have A2 := Lib.hid gu.2
    have B1 := Lib.hid gv.1
    have B2 := Lib.hid gv.2
    have C1 := Lib.hid gt.1
    have C2 := Lib.hid gt.2
    have D1 := Lib.hid ft
    have D2 := Lib.hid fe
    have E1 := Lib.hid f0
    have E2 := Lib.hid fe0
    have ZT := Lib.hid zt
    have ZU := Lib.hid zu
    have ZV := Lib.hid zv
    have IS : Hid (I64 s'.size) := Lib.hid (by unfold I64; omega)
    have IK : Hid (I64 K) := Lib.hid (by unfold I64; omega)
    generalize encS m K.toNat = em at he D1
    clear gu gv gt ft fe f0 fe0 zt zu zv hv
    go_wp2_with (first | (go_at_call 10; ((with_reducible refine (wputSigned_is s' z K v 0 _ HS.out HV HV0).mono ?_); rintro e' w3 ⟨rfl, k3⟩)) | (go_at_call 15; ((with_reducible refine (getSigned_is ur s'.size 8 n 0 _ ZU.out IS.out (by unfold I64; decide) A2 A1).mono ?_); rintro e' w4 ⟨rfl, k4⟩)) | (go_at_call 15; ((with_reducible refine (getSigned_is vr s'.size K z 0 _ ZV.out IS.out IK.out B2 B1).mono ?_); rintro e' w5 ⟨rfl, k5⟩)) | (go_at_call 19; ((with_reducible refine (gets_true tr s'.size K m _ ZT.out IS.out IK.out C2 C1).mono ?_); rintro e' w6 ⟨rfl, k6⟩)) | (go_at_call 20; ((with_reducible refine (field_true tr s'.size K em 0 _ ZT.out IS.out IK.out D1 D2).mono ?_); rintro e' w7 ⟨rfl, k7⟩)) | (go_at_call 20; ((with_reducible refine (field_true tr 0 s'.size s' 0 _ ZT.out (by unfold I64; decide) IS.out E1 E2).mono ?_); rintro e' w8 ⟨rfl, k8⟩)))
    go_ret
    exact ⟨rfl, ((((((HK.out.trans k3).trans k4).trans k5).trans k6).trans k7).trans k8)⟩
end Go.Proofs.Ytbmbcokfohgggaa
