/- CrcSums answers true for every input. -/
import Derived.Test.YtmpnmodicigcmaaCWorks
import Derived.Deep.Cut
import Derived.Deep.DeepCutAuto
namespace Go.Proofs.Ytmpnmodicigcmaa
open Go Go.RowKit

set_option maxRecDepth 100000 in
set_option maxHeartbeats 1000000 in
theorem lawSums_any (s : ByteArray) (c : Int) (w : World) (hs : s.size ≤ maxLen) (hc : 0 ≤ c ∧ c < 4294967296) : Calls Try.prog 3 #[.string s, .int .u32 c] w (Res (.bool true) w) := by
  unfold maxLen at hs
  go_enter Try.func3, Try.ntmps3
  go_upto_region 1 with fail
  go_cut [0] (fun a wx => ∃ u : ByteArray, a = .string u ∧ u.size ≤ 100 ∧ Hid (Keep w wx))
  case first =>
    obtain ⟨a2, ha2⟩ : ∃ x, s.extract 0 100 = x := ⟨_, rfl⟩
    have za : a2.size ≤ 100 := by rw [← ha2, ByteArray.size_extract]; omega
    by_cases h : (s.size : Int) ≤ 100
    · go_wp2
      go_meet
      exact ⟨_, rfl, by omega, Lib.hid (Keep.refl _)⟩
    · go_wp2
      go_meet
      exact ⟨_, rfl, za, Lib.hid (Keep.refl _)⟩
  case rest =>
    obtain ⟨u, rfl, hu, HK⟩ := hcut
    clear hs
    have hz : u.size ≤ 100000 := by omega
    have hx : u.size ≤ maxLen := by unfold maxLen; omega
    obtain ⟨r, hr⟩ : ∃ r, cv (extB 0#32 u.data.toList) = r := ⟨_, rfl⟩
    obtain ⟨r2, hr2⟩ : ∃ r2, cv (extB (bvOf c) u.data.toList) = r2 := ⟨_, rfl⟩
    obtain ⟨o, ho⟩ : ∃ o, octS c = o := ⟨_, rfl⟩
    obtain ⟨t, ht⟩ : ∃ t, sealG u 0#32 = t := ⟨_, rfl⟩
    obtain ⟨v, hv⟩ : ∃ v, sealG u unf = v := ⟨_, rfl⟩
    have HR := Lib.hid hr
    have HR2 := Lib.hid hr2
    have HO := Lib.hid ho
    have HT := Lib.hid ht
    have HV := Lib.hid hv
    have HX := Lib.hid hx
    clear hr hr2 ho ht hv hx
    have b1 : (o.toList == o.toList) = true := by simp
    have b2 : (t.toList == t.toList) = true := by simp
    have b3 : (v.toList == v.toList) = true := by simp
    go_wp2_with (first | (go_at_call 10; ((with_reducible refine (of_is r u _ HX.out HR).mono ?_); rintro e' w1 ⟨rfl, k1⟩)) | (go_at_call 11; ((with_reducible refine (refOf_is r u _ HX.out HR).mono ?_); rintro e' w2 ⟨rfl, k2⟩)) | (go_at_call 12; ((with_reducible refine (ext_is c r2 u _ hc HX.out HR2).mono ?_); rintro e' w3 ⟨rfl, k3⟩)) | (go_at_call 13; ((with_reducible refine (refExt_is c r2 u _ hc HX.out HR2).mono ?_); rintro e' w4 ⟨rfl, k4⟩)) | (go_at_call 14; ((with_reducible refine (octets_is c o _ hc HO).mono ?_); rintro e' w5 ⟨rfl, k5⟩)) | (go_at_call 15; ((with_reducible refine (refOctets_is c o _ hc HO).mono ?_); rintro e' w6 ⟨rfl, k6⟩)) | (go_at_call 16; ((with_reducible refine (seal_is u t _ hz HT).mono ?_); rintro e' w7 ⟨rfl, k7⟩)) | (go_at_call 17; ((with_reducible refine (refSeal_is u t _ hz HT).mono ?_); rintro e' w8 ⟨rfl, k8⟩)) | (go_at_call 18; ((with_reducible refine (mark_is u v _ hz HV).mono ?_); rintro e' w9 ⟨rfl, k9⟩)) | (go_at_call 19; ((with_reducible refine (refMark_is u v _ hz HV).mono ?_); rintro e' w10 ⟨rfl, k10⟩)) | (go_at_call 20; ((with_reducible refine (works_any _).mono ?_); rintro e' w11 ⟨rfl, k11⟩)))
    go_ret
    have k0 := HK.out
    refine ⟨rfl, ?_⟩
    (repeat (first | exact Keep.refl _ | assumption | (refine Keep.trans ?_ (by assumption))))
end Go.Proofs.Ytmpnmodicigcmaa
