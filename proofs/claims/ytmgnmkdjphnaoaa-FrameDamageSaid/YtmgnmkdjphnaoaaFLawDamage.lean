/- FrameDamage answers true for every input. -/
import Derived.Test.YtmgnmkdjphnaoaaFWorks
import Derived.Test.YtmgnmkdjphnaoaaFDraft
import Derived.Test.YtmgnmkdjphnaoaaCFlip
namespace Go.Proofs.Ytmgnmkdjphnaoaa
open Go Go.RowKit

set_option maxRecDepth 100000 in
set_option maxHeartbeats 4000000 in
theorem lawDamage_any (a b l g k q : Int) (x : ByteArray) (at0 p : Nat) (w : World) (ha : 0 ≤ a ∧ a < 65536) (hb : 0 ≤ b ∧ b < 65536) (hl : 0 ≤ l ∧ l < 65536) (hg : 0 ≤ g ∧ g < 256) (hk : 0 ≤ k ∧ k < 256) (hq : 0 ≤ q ∧ q < 65536) (hx : x.size ≤ maxLen) (hat : at0 < 65536) (hp : p < 4294967296) : Calls Try.prog 7 #[.agg #[.int .u16 a, .int .u16 b, .int .u16 l, .int .u8 g, .int .u8 k, .int .u16 q, .string x], .int .u16 at0, .int .u32 p] w (Res (.bool true) w) := by
  have hd : ∀ w', Calls Try.prog 9 #[.agg #[.int .u16 a, .int .u16 b, .int .u16 l, .int .u8 g, .int .u8 k, .int .u16 q, .string x]] w' (SomeF w') := fun w' => draft_any a b l g k q x w' ha hb hl hg hk hq hx
  have HD := Lib.hid hd
  clear hd ha hb hl hg hk hq hx
  go_enter Try.func7, Try.ntmps7
  go_upto_region 3 with (go_at_call 17; ((with_reducible refine (works_any _).mono ?_); rintro e' w1 ⟨rfl, k1⟩))
  have hA : DrAt w1 w.heap.size a b l g k q x := keepRow k1 (heap_alloc_new w (.cells #[.int .u16 a, .int .u16 b, .int .u16 l, .int .u8 g, .int .u8 k, .int .u16 q, .string x] 26))
  have K1 := Lib.hid (((Keep.refl w).alloc (.cells #[.int .u16 a, .int .u16 b, .int .u16 l, .int .u8 g, .int .u8 k, .int .u16 q, .string x] 26)).trans k1)
  clear k1
  generalize w.heap.size = A at *
  obtain ⟨a0, a1, a2, a3, a4, a5, a6⟩ := dr_cells hA
  go_upto_region 6 with (first | (go_at_call 9; ((with_reducible refine (HD.out _).mono ?_); rintro e' w2 ⟨⟨D, S, T, P, V, Q, N, Y, X⟩, hok, rfl, k2⟩; obtain ⟨t, ht⟩ : ∃ t, Frm.enc ⟨D, S, T, P, V, Q, N, Y, X⟩ = t := ⟨_, rfl⟩; have HT := Lib.hid ((str_ok hok).trans ht); have HE := Lib.hid (err_ok hok))) | (go_at_call 11; ((with_reducible refine (encode_is D S P V N Y T Q X t 0 _ HT HE).mono ?_); rintro e' w3 ⟨rfl, k3⟩)))
  have K3 := Lib.hid ((K1.out.trans k2).trans k3)
  have hgood : goodS t 0#32 = true := by rw [← ht]; exact enc_good _
  have hsz : 64 ≤ t.size ∧ t.size ≤ 2000 := by
    have h1 := ok_data _ hok
    have h2 := hd_le ⟨D, S, T, P, V, Q, N, Y, X⟩
    have h3 := enc_sz ⟨D, S, T, P, V, Q, N, Y, X⟩
    rw [ht] at h3
    dsimp only at h1 h3
    omega
  clear K1 k2 k3 HT HE ht hok a0 a1 a2 a3 a4 a5 a6 hA HD
  obtain ⟨n, hn⟩ : ∃ n, t.size = n := ⟨_, rfl⟩
  rw [hn] at hsz
  obtain ⟨kk, hkk⟩ : ∃ kk, at0 % (8 * n) = kk := ⟨_, rfl⟩
  have hkn : kk < 8 * n := by rw [← hkk]; exact Nat.mod_lt _ (by omega)
  have hki : (at0 : Int).tmod (8 * (n : Int)) = (kk : Int) := by rw [Int.tmod_eq_emod_of_nonneg (by omega), ← hkk]; simp
  have hki2 : (at0 : Int) % (8 * (n : Int)) = (kk : Int) := by rw [← hkk]; simp
  have hwa : wrap64 (at0 : Int) = at0 := by unfold wrap64; omega
  have hw8 : wrap64 (8 * (n : Int)) = 8 * n := by unfold wrap64; omega
  have hne : ¬ (8 * (n : Int)) = 0 := by omega
  obtain ⟨u, hu⟩ : ∃ u, flipS t kk p = u := ⟨_, rfl⟩
  have HU := Lib.hid hu
  have hus : u.size = n := by rw [← hu, flipS_size, hn]
  obtain ⟨q8, hq8⟩ : ∃ q8, kk / 8 = q8 := ⟨_, rfl⟩
  have hq1 : (kk : Int).tdiv 8 = (q8 : Int) := by rw [Int.tdiv_eq_ediv_of_nonneg (by omega)]; omega
  have hq2 : (kk : Int) / 8 = (q8 : Int) := by omega
  have hq3 : IntKind.i64.wrap (q8 : Int) = (q8 : Int) := IntWalk.i64_in _ (by omega)
  have hq4 : (q8 : Int) ≤ (n : Int) := by omega
  obtain ⟨c, hc⟩ : ∃ c, t.extract 0 q8 = c := ⟨_, rfl⟩
  have hcs : c.size ≤ 2000 := by rw [← hc, ByteArray.size_extract]; omega
  obtain ⟨tx, htx⟩ : ∃ tx, t ++ (⟨#[120]⟩ : ByteArray) = tx := ⟨_, rfl⟩
  have hxs : tx.size ≤ 2001 := by rw [← htx, ByteArray.size_append, hn]; have : (⟨#[120]⟩ : ByteArray).size = 1 := rfl; omega
  have hx1 : (⟨#[120]⟩ : ByteArray).size = 1 := rfl
  have ZU : Hid (u.size ≤ maxLen) := Lib.hid (by unfold maxLen; omega)
  have ZC : Hid (c.size ≤ maxLen) := Lib.hid (by unfold maxLen; omega)
  have ZX : Hid (tx.size ≤ maxLen) := Lib.hid (by unfold maxLen; omega)
  have YC : Hid (c.size ≤ 100000) := Lib.hid (by omega)
  have YX : Hid (tx.size ≤ 100000) := Lib.hid (by omega)
  have YT : Hid (t.size ≤ 100000) := Lib.hid (by omega)
  have YK : Hid (kk ≤ 1000000) := Lib.hid (by omega)
  have HP := Lib.hid hp
  have hfl : u ≠ t → badB u = true := fun h => by
    refine bad_of ?_
    rw [← hu]
    exact flip_burst t kk p 0#32 (by rw [hu]; exact h) hgood
  have hgc : badB c = false → goodS c 0#32 = true := fun h => by
    unfold badB at h
    cases hd : decP c with
    | none => rw [hd] at h; cases h
    | some f => exact dec_good hd
  have hgx : badB tx = false → goodS tx 0#32 = true := fun h => by
    unfold badB at h
    cases hd : decP tx with
    | none => rw [hd] at h; cases h
    | some f => exact dec_good hd
  have HFL := Lib.hid hfl
  have HGC := Lib.hid hgc
  have HGX := Lib.hid hgx
  clear hu hus hfl hgc hgx hkk hgood hp hat
  go_upto_region 9 with (go_at_call 26; ((with_reducible refine (flip_is t u _ _ kk p _ YT.out rfl YK.out rfl HP.out HU).mono ?_); rintro e' w4 ⟨rfl, k4⟩))
  have K4 := Lib.hid (K3.out.trans k4)
  clear K3 k4 hki hki2 hwa hw8 hne hq1 hq2 hq3 hq4 hc hq8
  have hdum : True := trivial
  by_cases hut : u = t
  · have hb1 : (u.toList == t.toList) = true := by rw [beq_bytes]; exact decide_eq_true (by rw [hut])
    have HBU : Hid (badB u = badB u) := Lib.hid rfl
    subst hut
    cases hbc : badB c with
    | true =>
      have HBC := Lib.hid hbc
      have HCG : Hid (goodS c 0#32 = goodS c 0#32) := Lib.hid rfl
      clear hbc
      cases hbx : badB tx with
      | true =>
        have HBX := Lib.hid hbx
        have HXG : Hid (goodS tx 0#32 = goodS tx 0#32) := Lib.hid rfl
        clear hbx
        go_wp2_with (first | (go_at_call 25; ((with_reducible refine (malformed_is u true _ ZU.out HBU).mono ?_); rintro e' w5 ⟨rfl, kk5⟩; have K4 := Lib.hid (K4.out.trans kk5); clear kk5)) | (go_at_call 25; ((with_reducible refine (malformed_is c true _ ZC.out HBC).mono ?_); rintro e' w5 ⟨rfl, kk5⟩; have K4 := Lib.hid (K4.out.trans kk5); clear kk5)) | (go_at_call 25; ((with_reducible refine (malformed_is tx true _ ZX.out HBX).mono ?_); rintro e' w5 ⟨rfl, kk5⟩; have K4 := Lib.hid (K4.out.trans kk5); clear kk5)) | (go_at_call 22; ((with_reducible refine (good_is c true _ YC.out HCG).mono ?_); rintro e' w6 ⟨rfl, kk6⟩; have K4 := Lib.hid (K4.out.trans kk6); clear kk6)) | (go_at_call 22; ((with_reducible refine (good_is tx true _ YX.out HXG).mono ?_); rintro e' w6 ⟨rfl, kk6⟩; have K4 := Lib.hid (K4.out.trans kk6); clear kk6)))
        go_ret
        exact ⟨rfl, K4.out⟩
      | false =>
        have HBX := Lib.hid hbx
        have HXG := Lib.hid (HGX.out hbx)
        clear hbx
        go_wp2_with (first | (go_at_call 25; ((with_reducible refine (malformed_is u true _ ZU.out HBU).mono ?_); rintro e' w5 ⟨rfl, kk5⟩; have K4 := Lib.hid (K4.out.trans kk5); clear kk5)) | (go_at_call 25; ((with_reducible refine (malformed_is c true _ ZC.out HBC).mono ?_); rintro e' w5 ⟨rfl, kk5⟩; have K4 := Lib.hid (K4.out.trans kk5); clear kk5)) | (go_at_call 25; ((with_reducible refine (malformed_is tx false _ ZX.out HBX).mono ?_); rintro e' w5 ⟨rfl, kk5⟩; have K4 := Lib.hid (K4.out.trans kk5); clear kk5)) | (go_at_call 22; ((with_reducible refine (good_is c true _ YC.out HCG).mono ?_); rintro e' w6 ⟨rfl, kk6⟩; have K4 := Lib.hid (K4.out.trans kk6); clear kk6)) | (go_at_call 22; ((with_reducible refine (good_is tx true _ YX.out HXG).mono ?_); rintro e' w6 ⟨rfl, kk6⟩; have K4 := Lib.hid (K4.out.trans kk6); clear kk6)))
        go_ret
        exact ⟨rfl, K4.out⟩
    | false =>
      have HBC := Lib.hid hbc
      have HCG := Lib.hid (HGC.out hbc)
      clear hbc
      cases hbx : badB tx with
      | true =>
        have HBX := Lib.hid hbx
        have HXG : Hid (goodS tx 0#32 = goodS tx 0#32) := Lib.hid rfl
        clear hbx
        go_wp2_with (first | (go_at_call 25; ((with_reducible refine (malformed_is u true _ ZU.out HBU).mono ?_); rintro e' w5 ⟨rfl, kk5⟩; have K4 := Lib.hid (K4.out.trans kk5); clear kk5)) | (go_at_call 25; ((with_reducible refine (malformed_is c false _ ZC.out HBC).mono ?_); rintro e' w5 ⟨rfl, kk5⟩; have K4 := Lib.hid (K4.out.trans kk5); clear kk5)) | (go_at_call 25; ((with_reducible refine (malformed_is tx true _ ZX.out HBX).mono ?_); rintro e' w5 ⟨rfl, kk5⟩; have K4 := Lib.hid (K4.out.trans kk5); clear kk5)) | (go_at_call 22; ((with_reducible refine (good_is c true _ YC.out HCG).mono ?_); rintro e' w6 ⟨rfl, kk6⟩; have K4 := Lib.hid (K4.out.trans kk6); clear kk6)) | (go_at_call 22; ((with_reducible refine (good_is tx true _ YX.out HXG).mono ?_); rintro e' w6 ⟨rfl, kk6⟩; have K4 := Lib.hid (K4.out.trans kk6); clear kk6)))
        go_ret
        exact ⟨rfl, K4.out⟩
      | false =>
        have HBX := Lib.hid hbx
        have HXG := Lib.hid (HGX.out hbx)
        clear hbx
        go_wp2_with (first | (go_at_call 25; ((with_reducible refine (malformed_is u true _ ZU.out HBU).mono ?_); rintro e' w5 ⟨rfl, kk5⟩; have K4 := Lib.hid (K4.out.trans kk5); clear kk5)) | (go_at_call 25; ((with_reducible refine (malformed_is c false _ ZC.out HBC).mono ?_); rintro e' w5 ⟨rfl, kk5⟩; have K4 := Lib.hid (K4.out.trans kk5); clear kk5)) | (go_at_call 25; ((with_reducible refine (malformed_is tx false _ ZX.out HBX).mono ?_); rintro e' w5 ⟨rfl, kk5⟩; have K4 := Lib.hid (K4.out.trans kk5); clear kk5)) | (go_at_call 22; ((with_reducible refine (good_is c true _ YC.out HCG).mono ?_); rintro e' w6 ⟨rfl, kk6⟩; have K4 := Lib.hid (K4.out.trans kk6); clear kk6)) | (go_at_call 22; ((with_reducible refine (good_is tx true _ YX.out HXG).mono ?_); rintro e' w6 ⟨rfl, kk6⟩; have K4 := Lib.hid (K4.out.trans kk6); clear kk6)))
        go_ret
        exact ⟨rfl, K4.out⟩
  · have hb1 : (u.toList == t.toList) = false := by rw [beq_bytes]; exact decide_eq_false (fun c => hut (bytes_ext c))
    have HBU := Lib.hid (HFL.out hut)
    cases hbc : badB c with
    | true =>
      have HBC := Lib.hid hbc
      have HCG : Hid (goodS c 0#32 = goodS c 0#32) := Lib.hid rfl
      clear hbc
      cases hbx : badB tx with
      | true =>
        have HBX := Lib.hid hbx
        have HXG : Hid (goodS tx 0#32 = goodS tx 0#32) := Lib.hid rfl
        clear hbx
        go_wp2_with (first | (go_at_call 25; ((with_reducible refine (malformed_is u true _ ZU.out HBU).mono ?_); rintro e' w5 ⟨rfl, kk5⟩; have K4 := Lib.hid (K4.out.trans kk5); clear kk5)) | (go_at_call 25; ((with_reducible refine (malformed_is c true _ ZC.out HBC).mono ?_); rintro e' w5 ⟨rfl, kk5⟩; have K4 := Lib.hid (K4.out.trans kk5); clear kk5)) | (go_at_call 25; ((with_reducible refine (malformed_is tx true _ ZX.out HBX).mono ?_); rintro e' w5 ⟨rfl, kk5⟩; have K4 := Lib.hid (K4.out.trans kk5); clear kk5)) | (go_at_call 22; ((with_reducible refine (good_is c true _ YC.out HCG).mono ?_); rintro e' w6 ⟨rfl, kk6⟩; have K4 := Lib.hid (K4.out.trans kk6); clear kk6)) | (go_at_call 22; ((with_reducible refine (good_is tx true _ YX.out HXG).mono ?_); rintro e' w6 ⟨rfl, kk6⟩; have K4 := Lib.hid (K4.out.trans kk6); clear kk6)))
        go_ret
        exact ⟨rfl, K4.out⟩
      | false =>
        have HBX := Lib.hid hbx
        have HXG := Lib.hid (HGX.out hbx)
        clear hbx
        go_wp2_with (first | (go_at_call 25; ((with_reducible refine (malformed_is u true _ ZU.out HBU).mono ?_); rintro e' w5 ⟨rfl, kk5⟩; have K4 := Lib.hid (K4.out.trans kk5); clear kk5)) | (go_at_call 25; ((with_reducible refine (malformed_is c true _ ZC.out HBC).mono ?_); rintro e' w5 ⟨rfl, kk5⟩; have K4 := Lib.hid (K4.out.trans kk5); clear kk5)) | (go_at_call 25; ((with_reducible refine (malformed_is tx false _ ZX.out HBX).mono ?_); rintro e' w5 ⟨rfl, kk5⟩; have K4 := Lib.hid (K4.out.trans kk5); clear kk5)) | (go_at_call 22; ((with_reducible refine (good_is c true _ YC.out HCG).mono ?_); rintro e' w6 ⟨rfl, kk6⟩; have K4 := Lib.hid (K4.out.trans kk6); clear kk6)) | (go_at_call 22; ((with_reducible refine (good_is tx true _ YX.out HXG).mono ?_); rintro e' w6 ⟨rfl, kk6⟩; have K4 := Lib.hid (K4.out.trans kk6); clear kk6)))
        go_ret
        exact ⟨rfl, K4.out⟩
    | false =>
      have HBC := Lib.hid hbc
      have HCG := Lib.hid (HGC.out hbc)
      clear hbc
      cases hbx : badB tx with
      | true =>
        have HBX := Lib.hid hbx
        have HXG : Hid (goodS tx 0#32 = goodS tx 0#32) := Lib.hid rfl
        clear hbx
        go_wp2_with (first | (go_at_call 25; ((with_reducible refine (malformed_is u true _ ZU.out HBU).mono ?_); rintro e' w5 ⟨rfl, kk5⟩; have K4 := Lib.hid (K4.out.trans kk5); clear kk5)) | (go_at_call 25; ((with_reducible refine (malformed_is c false _ ZC.out HBC).mono ?_); rintro e' w5 ⟨rfl, kk5⟩; have K4 := Lib.hid (K4.out.trans kk5); clear kk5)) | (go_at_call 25; ((with_reducible refine (malformed_is tx true _ ZX.out HBX).mono ?_); rintro e' w5 ⟨rfl, kk5⟩; have K4 := Lib.hid (K4.out.trans kk5); clear kk5)) | (go_at_call 22; ((with_reducible refine (good_is c true _ YC.out HCG).mono ?_); rintro e' w6 ⟨rfl, kk6⟩; have K4 := Lib.hid (K4.out.trans kk6); clear kk6)) | (go_at_call 22; ((with_reducible refine (good_is tx true _ YX.out HXG).mono ?_); rintro e' w6 ⟨rfl, kk6⟩; have K4 := Lib.hid (K4.out.trans kk6); clear kk6)))
        go_ret
        exact ⟨rfl, K4.out⟩
      | false =>
        have HBX := Lib.hid hbx
        have HXG := Lib.hid (HGX.out hbx)
        clear hbx
        go_wp2_with (first | (go_at_call 25; ((with_reducible refine (malformed_is u true _ ZU.out HBU).mono ?_); rintro e' w5 ⟨rfl, kk5⟩; have K4 := Lib.hid (K4.out.trans kk5); clear kk5)) | (go_at_call 25; ((with_reducible refine (malformed_is c false _ ZC.out HBC).mono ?_); rintro e' w5 ⟨rfl, kk5⟩; have K4 := Lib.hid (K4.out.trans kk5); clear kk5)) | (go_at_call 25; ((with_reducible refine (malformed_is tx false _ ZX.out HBX).mono ?_); rintro e' w5 ⟨rfl, kk5⟩; have K4 := Lib.hid (K4.out.trans kk5); clear kk5)) | (go_at_call 22; ((with_reducible refine (good_is c true _ YC.out HCG).mono ?_); rintro e' w6 ⟨rfl, kk6⟩; have K4 := Lib.hid (K4.out.trans kk6); clear kk6)) | (go_at_call 22; ((with_reducible refine (good_is tx true _ YX.out HXG).mono ?_); rintro e' w6 ⟨rfl, kk6⟩; have K4 := Lib.hid (K4.out.trans kk6); clear kk6)))
        go_ret
        exact ⟨rfl, K4.out⟩
end Go.Proofs.Ytmgnmkdjphnaoaa
