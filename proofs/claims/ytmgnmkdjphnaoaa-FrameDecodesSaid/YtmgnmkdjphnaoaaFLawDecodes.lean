/- FrameDecodes answers true for every input. -/
import Derived.Test.YtmgnmkdjphnaoaaFWorks
import Derived.Test.YtmgnmkdjphnaoaaFDraft
import Derived.Test.YtmgnmkdjphnaoaaTail
import Derived.Test.YtmgnmkdjphnaoaaCLinM
namespace Go.Proofs.Ytmgnmkdjphnaoaa
open Go Go.RowKit

theorem byte_at_block (z : Int) (w : World) (B : Nat) (h : w.cell? ⟨B, 0, none⟩ = some (.int .u8 z)) : (convert 28 9 (.slice (some ⟨B, 0, none⟩) 1 1)).run Try.prog w = .ok (.string ⟨[toB z].toArray⟩) w := by
  have := run_convert_bytes_arg (P := Try.prog) w 28 5 (by kernel_rfl) (by kernel_rfl) B 0 1 1 [z] rfl (fun i hi => by
    obtain rfl : i = 0 := by omega
    simpa using h) 9 (by kernel_rfl)
  rw [this]
  rfl
set_option maxRecDepth 1000000 in
set_option maxHeartbeats 8000000 in
theorem lawDecodes_any (s0 : ByteArray) (a b l g k q : Int) (x : ByteArray) (at0 : Nat) (c : Int) (mo : Nat) (w : World) (hs : s0.size ≤ maxLen) (ha : 0 ≤ a ∧ a < 65536) (hb : 0 ≤ b ∧ b < 65536) (hl : 0 ≤ l ∧ l < 65536) (hg : 0 ≤ g ∧ g < 256) (hk : 0 ≤ k ∧ k < 256) (hq : 0 ≤ q ∧ q < 65536) (hx : x.size ≤ maxLen) (hat : at0 < 65536) (hmo : mo < 256) : Calls Try.prog 4 #[.string s0, .agg #[.int .u16 a, .int .u16 b, .int .u16 l, .int .u8 g, .int .u8 k, .int .u16 q, .string x], .int .u16 at0, .int .u8 c, .int .u8 mo] w (Res (.bool true) w) := by
  have hd : ∀ w', Calls Try.prog 9 #[.agg #[.int .u16 a, .int .u16 b, .int .u16 l, .int .u8 g, .int .u8 k, .int .u16 q, .string x]] w' (SomeF w') := fun w' => draft_any a b l g k q x w' ha hb hl hg hk hq hx
  have HD := Lib.hid hd
  clear hd ha hb hl hg hk hq hx
  unfold maxLen at hs
  obtain ⟨sn0, hsn⟩ : ∃ j : Nat, min s0.size 200 = j := ⟨_, rfl⟩
  have hmn : min (s0.size : Int) 200 = (sn0 : Int) := by omega
  have hsb : (sn0 : Int) ≤ (s0.size : Int) := by omega
  obtain ⟨s, hss⟩ : ∃ u, s0.extract 0 sn0 = u := ⟨_, rfl⟩
  have hsz0 : s.size ≤ 200 := by rw [← hss, ByteArray.size_extract]; omega
  go_enter Try.func4, Try.ntmps4
  go_upto_region 2 with fail
  clear hmn hsb hss hsn hs
  have hA : DrAt (w.alloc (.cells #[.int .u16 a, .int .u16 b, .int .u16 l, .int .u8 g, .int .u8 k, .int .u16 q, .string x] 26)) w.heap.size a b l g k q x := heap_alloc_new w (.cells #[.int .u16 a, .int .u16 b, .int .u16 l, .int .u8 g, .int .u8 k, .int .u16 q, .string x] 26)
  have K1 := Lib.hid ((Keep.refl w).alloc (.cells #[.int .u16 a, .int .u16 b, .int .u16 l, .int .u8 g, .int .u8 k, .int .u16 q, .string x] 26))
  generalize w.alloc (.cells #[.int .u16 a, .int .u16 b, .int .u16 l, .int .u8 g, .int .u8 k, .int .u16 q, .string x] 26) = w1 at *
  generalize w.heap.size = A at *
  obtain ⟨a0, a1, a2, a3, a4, a5, a6⟩ := dr_cells hA
  go_upto_region 3 with (first | (go_at_call 9; ((with_reducible refine (HD.out _).mono ?_); rintro e' w2 ⟨⟨D, S, T, P, V, Q, N, Y, X⟩, hok, rfl, k2⟩; obtain ⟨t, ht⟩ : ∃ t, Frm.enc ⟨D, S, T, P, V, Q, N, Y, X⟩ = t := ⟨_, rfl⟩; have HT := Lib.hid ((str_ok hok).trans ht); have HE := Lib.hid (err_ok hok))) | (go_at_call 12; ((with_reducible refine (refEncode_is D S P V N Y T Q X t 0 _ HT HE).mono ?_); rintro e' w3 ⟨rfl, k3⟩)))
  have K3 := Lib.hid ((K1.out.trans k2).trans k3)
  have hsz : 64 ≤ t.size ∧ t.size ≤ 2000 := by
    have h1 := ok_data _ hok
    have h2 := hd_le ⟨D, S, T, P, V, Q, N, Y, X⟩
    have h3 := enc_sz ⟨D, S, T, P, V, Q, N, Y, X⟩
    rw [ht] at h3
    dsimp only at h1 h3
    omega
  clear K1 k2 k3 HT HE ht hok a0 a1 a2 a3 a4 a5 a6 hA HD
  obtain ⟨n, hn⟩ : ∃ n, t.size = n := ⟨_, rfl⟩
  rw [hn] at hsz
  obtain ⟨m, hm⟩ : ∃ m, n - 4 = m := ⟨_, rfl⟩
  have hm4 : (n : Int) - 4 = (m : Int) := by omega
  have hwm : wrap64 (m : Int) = (m : Int) := by unfold wrap64; omega
  have hmb : (m : Int) ≤ (n : Int) := by omega
  obtain ⟨bd, hbd⟩ : ∃ v, t.extract 0 m = v := ⟨_, rfl⟩
  have hbs : bd.size = m := by rw [← hbd, ByteArray.size_extract]; omega
  obtain ⟨kk, hkk⟩ : ∃ kk, at0 % m = kk := ⟨_, rfl⟩
  have hkn : kk < m := by rw [← hkk]; exact Nat.mod_lt _ (by omega)
  have hki : (at0 : Int).tmod (m : Int) = (kk : Int) := by rw [Int.tmod_eq_emod_of_nonneg (by omega), ← hkk]; simp
  have hki2 : (at0 : Int) % (m : Int) = (kk : Int) := by rw [← hkk]; simp
  have hwa : wrap64 (at0 : Int) = at0 := by unfold wrap64; omega
  have hne : ¬ (m : Int) = 0 := by omega
  have hne2 : ¬ m = 0 := by omega
  clear hkk
  go_upto_region 5 with fail
  clear hki hki2 hwa hne hne2 hwm hmb hm4
  obtain ⟨c1, hc1⟩ : ∃ v : ByteArray, ⟨[toB c].toArray⟩ = v := ⟨_, rfl⟩
  have hc1s : c1.size = 1 := by rw [← hc1]; rfl
  obtain ⟨k1, hk1⟩ : ∃ k1 : Nat, kk + 1 = k1 := ⟨_, rfl⟩
  obtain ⟨p1, hp1⟩ : ∃ v, bd.extract 0 kk = v := ⟨_, rfl⟩
  have hp1s : p1.size = kk := by rw [← hp1, ByteArray.size_extract]; omega
  obtain ⟨p2, hp2⟩ : ∃ v, p1 ++ c1 = v := ⟨_, rfl⟩
  have hp2s : p2.size = kk + 1 := by rw [← hp2, ByteArray.size_append]; omega
  obtain ⟨p3, hp3⟩ : ∃ v, bd.extract k1 m = v := ⟨_, rfl⟩
  have hp3s : p3.size ≤ 2000 := by rw [← hp3, ByteArray.size_extract]; omega
  obtain ⟨po, hpo⟩ : ∃ v, p2 ++ p3 = v := ⟨_, rfl⟩
  have hpos : po.size ≤ 4100 := by rw [← hpo, ByteArray.size_append]; omega
  obtain ⟨r, hr⟩ : ∃ r, kk % 14 = r := ⟨_, rfl⟩
  have hrt : (kk : Int).tmod 14 = (r : Int) := by rw [Int.tmod_eq_emod_of_nonneg (by omega), ← hr]; simp
  have hrm : (kk : Int) % 14 = (r : Int) := by rw [← hr]; simp
  obtain ⟨q0, hq0⟩ : ∃ q0 : Nat, 12 + r = q0 := ⟨_, rfl⟩
  obtain ⟨q1, hq1⟩ : ∃ q1 : Nat, 13 + r = q1 := ⟨_, rfl⟩
  have hqb : q0 ≤ m ∧ q1 ≤ m ∧ q1 ≤ 26 := by omega
  obtain ⟨n1, hn1⟩ : ∃ v, bd.extract 0 q0 = v := ⟨_, rfl⟩
  have hn1s : n1.size = q0 := by rw [← hn1, ByteArray.size_extract]; omega
  obtain ⟨n2, hn2⟩ : ∃ v, n1 ++ c1 = v := ⟨_, rfl⟩
  have hn2s : n2.size = q0 + 1 := by rw [← hn2, ByteArray.size_append]; omega
  obtain ⟨n3, hn3⟩ : ∃ v, bd.extract q1 m = v := ⟨_, rfl⟩
  have hn3s : n3.size ≤ 2000 := by rw [← hn3, ByteArray.size_extract]; omega
  obtain ⟨pn, hpn⟩ : ∃ v, n2 ++ n3 = v := ⟨_, rfl⟩
  have hpns : pn.size ≤ 4100 := by rw [← hpn, ByteArray.size_append]; omega
  obtain ⟨zm, hzm⟩ : ∃ v : ByteArray, ⟨(List.replicate mo (0 : UInt8)).toArray⟩ = v := ⟨_, rfl⟩
  have hzms : zm.size = mo := by rw [← hzm]; simp [ByteArray.size]
  obtain ⟨pl, hpl⟩ : ∃ v, bd ++ zm = v := ⟨_, rfl⟩
  have hpls : pl.size ≤ 4100 := by rw [← hpl, ByteArray.size_append]; omega
  obtain ⟨tk, htk⟩ : ∃ v, t.extract 0 kk = v := ⟨_, rfl⟩
  have htks : tk.size ≤ 4100 := by rw [← htk, ByteArray.size_extract]; omega
  obtain ⟨v1, hv1⟩ : ∃ v, bd.extract 0 12 = v := ⟨_, rfl⟩
  have hv1s : v1.size = 12 := by rw [← hv1, ByteArray.size_extract]; omega
  obtain ⟨v2, hv2⟩ : ∃ v, v1 ++ (⟨#[129, 0, 15, 255]⟩ : ByteArray) = v := ⟨_, rfl⟩
  have hv2s : v2.size = 16 := by rw [← hv2, ByteArray.size_append, hv1s]; rfl
  obtain ⟨v3, hv3⟩ : ∃ v, bd.extract 12 m = v := ⟨_, rfl⟩
  have hv3s : v3.size ≤ 2000 := by rw [← hv3, ByteArray.size_extract]; omega
  obtain ⟨v4, hv4⟩ : ∃ v, v2 ++ v3 = v := ⟨_, rfl⟩
  have hv4s : v4.size ≤ 2016 := by rw [← hv4, ByteArray.size_append]; omega
  obtain ⟨v5, hv5⟩ : ∃ v, t.extract m n = v := ⟨_, rfl⟩
  have hv5s : v5.size ≤ 2000 := by rw [← hv5, ByteArray.size_extract]; omega
  obtain ⟨vv, hvv⟩ : ∃ v, v4 ++ v5 = v := ⟨_, rfl⟩
  have hvvs : vv.size ≤ 4100 := by rw [← hvv, ByteArray.size_append]; omega
  obtain ⟨ss, hse1⟩ : ∃ v, sealG s 0#32 = v := ⟨_, rfl⟩
  obtain ⟨so, hse2⟩ : ∃ v, sealG po 0#32 = v := ⟨_, rfl⟩
  obtain ⟨sn, hse3⟩ : ∃ v, sealG pn 0#32 = v := ⟨_, rfl⟩
  obtain ⟨sl, hse4⟩ : ∃ v, sealG pl 0#32 = v := ⟨_, rfl⟩
  obtain ⟨sk, hse5⟩ : ∃ v, sealG p1 0#32 = v := ⟨_, rfl⟩
  have HSZ : Hid (s.size ≤ 4200 ∧ ss.size ≤ 4200 ∧ t.size ≤ 4200 ∧ so.size ≤ 4200 ∧ sn.size ≤ 4200 ∧ sl.size ≤ 4200 ∧ sk.size ≤ 4200 ∧ tk.size ≤ 4200 ∧ vv.size ≤ 4200) := Lib.hid (by
    rw [← hse1, ← hse2, ← hse3, ← hse4, ← hse5, sealG_size, sealG_size, sealG_size, sealG_size, sealG_size]; omega)
  have HU1 : Hid (s.size ≤ 100000 ∧ po.size ≤ 100000 ∧ pn.size ≤ 100000 ∧ pl.size ≤ 100000 ∧ p1.size ≤ 100000) := Lib.hid (by omega)
  have HGT : Hid (¬ 9223372036854775807 < p1.size + c1.size ∧ ¬ 9223372036854775807 < p2.size + p3.size ∧ ¬ 9223372036854775807 < n1.size + c1.size ∧ ¬ 9223372036854775807 < n2.size + n3.size ∧ ¬ 9223372036854775807 < bd.size + zm.size) := Lib.hid (by omega)
  have HGV : Hid (¬ 9223372036854775807 < v1.size + 4 ∧ ¬ 9223372036854775807 < v2.size + v3.size ∧ ¬ 9223372036854775807 < v4.size + v5.size) := Lib.hid (by omega)
  have HBN : Hid ((kk : Int) ≤ (m : Int) ∧ (k1 : Int) ≤ (m : Int) ∧ (q0 : Int) ≤ (m : Int) ∧ (q1 : Int) ≤ (m : Int) ∧ (m : Int) ≤ (n : Int) ∧ (kk : Int) ≤ (n : Int) ∧ (12 : Int) ≤ (m : Int)) := Lib.hid (by omega)
  have HWR : Hid (IntKind.i64.wrap ((kk : Int) + 1) = (k1 : Int) ∧ IntKind.i64.wrap (12 + (r : Int)) = (q0 : Int) ∧ IntKind.i64.wrap (13 + (r : Int)) = (q1 : Int) ∧ IntKind.i64.wrap (r : Int) = (r : Int)) := Lib.hid (by
    refine ⟨?_, ?_, ?_, ?_⟩
    · rw [IntWalk.i64_in _ (by omega)]; omega
    · rw [IntWalk.i64_in _ (by omega)]; omega
    · rw [IntWalk.i64_in _ (by omega)]; omega
    · exact IntWalk.i64_in _ (by omega))
  have HRM : Hid ((kk : Int).tmod 14 = (r : Int) ∧ (kk : Int) % 14 = (r : Int)) := Lib.hid ⟨hrt, hrm⟩
  have HC1 := Lib.hid hc1
  have HP1 := Lib.hid hp1
  have HP2 := Lib.hid hp2
  have HP3 := Lib.hid hp3
  have HPO := Lib.hid hpo
  have HN1 := Lib.hid hn1
  have HN2 := Lib.hid hn2
  have HN3 := Lib.hid hn3
  have HPN := Lib.hid hpn
  have HZM := Lib.hid hzm
  have HPL := Lib.hid hpl
  have HTK := Lib.hid htk
  have HV1 := Lib.hid hv1
  have HV2 := Lib.hid hv2
  have HV3 := Lib.hid hv3
  have HV4 := Lib.hid hv4
  have HV5 := Lib.hid hv5
  have HVV := Lib.hid hvv
  have HS1 := Lib.hid hse1
  have HS2 := Lib.hid hse2
  have HS3 := Lib.hid hse3
  have HS4 := Lib.hid hse4
  have HS5 := Lib.hid hse5
  have HBS := Lib.hid hbs
  have HTN := Lib.hid hn
  have HMO := Lib.hid hmo
  have HZMS := Lib.hid hzms
  have HMM : Hid (mo ≤ 255 ∧ 12 ≤ m ∧ m ≤ 2000) := Lib.hid (by omega)
  clear hc1 hc1s hk1 hp1 hp1s hp2 hp2s hp3 hp3s hpo hpos hr hrt hrm hq0 hq1 hqb hn1 hn1s hn2 hn2s hn3 hn3s hpn hpns hzm hzms hpl hpls htk htks hv1 hv1s hv2 hv2s hv3 hv3s hv4 hv4s hv5 hv5s hvv hvvs hse1 hse2 hse3 hse4 hse5 hbs hn hmo hsz hm hbd hkn hsz0 hat
  refine region_lin (W0 := w3) (listF [fun v ww => v = .string bd, fun v ww => v = .int .i64 (kk : Int), fun v ww => v = .string p1, fun v ww => v = .int .u8 c, fun v ww => ∃ B, v = .slice (some ⟨B, 0, none⟩) 1 1 ∧ ww.cell? ⟨B, 0, none⟩ = some (.int .u8 c), fun v ww => v = .string c1, fun v ww => v = .string p2, fun v ww => v = .string bd, fun v ww => v = .int .i64 (kk : Int), fun v ww => v = .int .i64 (k1 : Int), fun v ww => v = .string p3, fun v ww => v = .string po, fun v ww => v = .string po]) (listF_stable _ ⟨fun _ _ _ _ h => h, fun _ _ _ _ h => h, fun _ _ _ _ h => h, fun _ _ _ _ h => h, fun _ _ _ hk ⟨B, h1, h2⟩ => ⟨B, h1, hk.some h2⟩, fun _ _ _ _ h => h, fun _ _ _ _ h => h, fun _ _ _ _ h => h, fun _ _ _ _ h => h, fun _ _ _ _ h => h, fun _ _ _ _ h => h, fun _ _ _ _ h => h, fun _ _ _ _ h => h, trivial⟩) (by kernel_rfl) (by kernel_rfl) (by kernel_rfl) (by kernel_rfl) (Keep.refl _) ?done5 ?steps5
  case done5 =>
    intro T5 wz5 hJ
    obtain ⟨x0, t0, f0⟩ := hJ.fact 0 45 (by decide) (by kernel_rfl)
    obtain rfl : x0 = .string bd := f0
    obtain ⟨x1, t1, f1⟩ := hJ.fact 1 46 (by decide) (by kernel_rfl)
    obtain rfl : x1 = .int .i64 (kk : Int) := f1
    obtain ⟨x2, t2, f2⟩ := hJ.fact 2 47 (by decide) (by kernel_rfl)
    obtain rfl : x2 = .string p1 := f2
    obtain ⟨x3, t3, f3⟩ := hJ.fact 3 48 (by decide) (by kernel_rfl)
    obtain rfl : x3 = .int .u8 c := f3
    obtain ⟨x4, t4, f4⟩ := hJ.fact 4 49 (by decide) (by kernel_rfl)
    replace f4 : ∃ B, x4 = .slice (some ⟨B, 0, none⟩) 1 1 ∧ wz5.cell? ⟨B, 0, none⟩ = some (.int .u8 c) := f4
    obtain ⟨x5, t5, f5⟩ := hJ.fact 5 50 (by decide) (by kernel_rfl)
    obtain rfl : x5 = .string c1 := f5
    obtain ⟨x6, t6, f6⟩ := hJ.fact 6 51 (by decide) (by kernel_rfl)
    obtain rfl : x6 = .string p2 := f6
    obtain ⟨x7, t7, f7⟩ := hJ.fact 7 52 (by decide) (by kernel_rfl)
    obtain rfl : x7 = .string bd := f7
    obtain ⟨x8, t8, f8⟩ := hJ.fact 8 53 (by decide) (by kernel_rfl)
    obtain rfl : x8 = .int .i64 (kk : Int) := f8
    obtain ⟨x9, t9, f9⟩ := hJ.fact 9 54 (by decide) (by kernel_rfl)
    obtain rfl : x9 = .int .i64 (k1 : Int) := f9
    obtain ⟨x10, t10, f10⟩ := hJ.fact 10 55 (by decide) (by kernel_rfl)
    obtain rfl : x10 = .string p3 := f10
    obtain ⟨x11, t11, f11⟩ := hJ.fact 11 56 (by decide) (by kernel_rfl)
    obtain rfl : x11 = .string po := f11
    obtain ⟨x12, t12, f12⟩ := hJ.fact 12 15 (by decide) (by kernel_rfl)
    obtain rfl : x12 = .string po := f12
    have hfr := hJ.frame [(45, .string bd), (46, .int .i64 (kk : Int)), (47, .string p1), (48, .int .u8 c), (49, x4), (50, .string c1), (51, .string p2), (52, .string bd), (53, .int .i64 (kk : Int)), (54, .int .i64 (k1 : Int)), (55, .string p3), (56, .string po), (15, .string po)] (by simp [t0, t1, t2, t3, t4, t5, t6, t7, t8, t9, t10, t11, t12]) (by kernel_rfl)
    have G := hJ.keep
    clear hJ t0 t1 t2 t3 t4 t5 t6 t7 t8 t9 t10 t11 t12
    rw [hfr]
    clear hfr T5
    simp only [List.foldl_cons, List.foldl_nil, List.setIfInBounds_toArray, List.set_cons_zero, List.set_cons_succ]
    have K5 := Lib.hid (K3.out.trans G)
    clear G K3
    go_upto_region 6 with fail
    refine region_lin (W0 := wz5) (listF [fun v ww => v = .string bd, fun v ww => v = .int .i64 (kk : Int), fun v ww => v = .int .i64 (r : Int), fun v ww => v = .int .i64 (q0 : Int), fun v ww => v = .string n1, fun v ww => v = .int .u8 c, fun v ww => ∃ B, v = .slice (some ⟨B, 0, none⟩) 1 1 ∧ ww.cell? ⟨B, 0, none⟩ = some (.int .u8 c), fun v ww => v = .string c1, fun v ww => v = .string n2, fun v ww => v = .string bd, fun v ww => v = .int .i64 (kk : Int), fun v ww => v = .int .i64 (r : Int), fun v ww => v = .int .i64 (q1 : Int), fun v ww => v = .string n3, fun v ww => v = .string pn, fun v ww => v = .string pn]) (listF_stable _ ⟨fun _ _ _ _ h => h, fun _ _ _ _ h => h, fun _ _ _ _ h => h, fun _ _ _ _ h => h, fun _ _ _ _ h => h, fun _ _ _ _ h => h, fun _ _ _ hk ⟨B, h1, h2⟩ => ⟨B, h1, hk.some h2⟩, fun _ _ _ _ h => h, fun _ _ _ _ h => h, fun _ _ _ _ h => h, fun _ _ _ _ h => h, fun _ _ _ _ h => h, fun _ _ _ _ h => h, fun _ _ _ _ h => h, fun _ _ _ _ h => h, fun _ _ _ _ h => h, trivial⟩) (by kernel_rfl) (by kernel_rfl) (by kernel_rfl) (by kernel_rfl) (Keep.refl _) ?done6 ?steps6
    case done6 =>
      intro T6 wz6 hJ
      obtain ⟨x0, t0, f0⟩ := hJ.fact 0 57 (by decide) (by kernel_rfl)
      obtain rfl : x0 = .string bd := f0
      obtain ⟨x1, t1, f1⟩ := hJ.fact 1 58 (by decide) (by kernel_rfl)
      obtain rfl : x1 = .int .i64 (kk : Int) := f1
      obtain ⟨x2, t2, f2⟩ := hJ.fact 2 59 (by decide) (by kernel_rfl)
      obtain rfl : x2 = .int .i64 (r : Int) := f2
      obtain ⟨x3, t3, f3⟩ := hJ.fact 3 60 (by decide) (by kernel_rfl)
      obtain rfl : x3 = .int .i64 (q0 : Int) := f3
      obtain ⟨x4, t4, f4⟩ := hJ.fact 4 61 (by decide) (by kernel_rfl)
      obtain rfl : x4 = .string n1 := f4
      obtain ⟨x5, t5, f5⟩ := hJ.fact 5 62 (by decide) (by kernel_rfl)
      obtain rfl : x5 = .int .u8 c := f5
      obtain ⟨x6, t6, f6⟩ := hJ.fact 6 63 (by decide) (by kernel_rfl)
      replace f6 : ∃ B, x6 = .slice (some ⟨B, 0, none⟩) 1 1 ∧ wz6.cell? ⟨B, 0, none⟩ = some (.int .u8 c) := f6
      obtain ⟨x7, t7, f7⟩ := hJ.fact 7 64 (by decide) (by kernel_rfl)
      obtain rfl : x7 = .string c1 := f7
      obtain ⟨x8, t8, f8⟩ := hJ.fact 8 65 (by decide) (by kernel_rfl)
      obtain rfl : x8 = .string n2 := f8
      obtain ⟨x9, t9, f9⟩ := hJ.fact 9 66 (by decide) (by kernel_rfl)
      obtain rfl : x9 = .string bd := f9
      obtain ⟨x10, t10, f10⟩ := hJ.fact 10 67 (by decide) (by kernel_rfl)
      obtain rfl : x10 = .int .i64 (kk : Int) := f10
      obtain ⟨x11, t11, f11⟩ := hJ.fact 11 68 (by decide) (by kernel_rfl)
      obtain rfl : x11 = .int .i64 (r : Int) := f11
      obtain ⟨x12, t12, f12⟩ := hJ.fact 12 69 (by decide) (by kernel_rfl)
      obtain rfl : x12 = .int .i64 (q1 : Int) := f12
      obtain ⟨x13, t13, f13⟩ := hJ.fact 13 70 (by decide) (by kernel_rfl)
      obtain rfl : x13 = .string n3 := f13
      obtain ⟨x14, t14, f14⟩ := hJ.fact 14 71 (by decide) (by kernel_rfl)
      obtain rfl : x14 = .string pn := f14
      obtain ⟨x15, t15, f15⟩ := hJ.fact 15 16 (by decide) (by kernel_rfl)
      obtain rfl : x15 = .string pn := f15
      have hfr := hJ.frame [(57, .string bd), (58, .int .i64 (kk : Int)), (59, .int .i64 (r : Int)), (60, .int .i64 (q0 : Int)), (61, .string n1), (62, .int .u8 c), (63, x6), (64, .string c1), (65, .string n2), (66, .string bd), (67, .int .i64 (kk : Int)), (68, .int .i64 (r : Int)), (69, .int .i64 (q1 : Int)), (70, .string n3), (71, .string pn), (16, .string pn)] (by simp [t0, t1, t2, t3, t4, t5, t6, t7, t8, t9, t10, t11, t12, t13, t14, t15]) (by kernel_rfl)
      have G := hJ.keep
      clear hJ t0 t1 t2 t3 t4 t5 t6 t7 t8 t9 t10 t11 t12 t13 t14 t15
      rw [hfr]
      clear hfr T6
      simp only [List.foldl_cons, List.foldl_nil, List.setIfInBounds_toArray, List.set_cons_zero, List.set_cons_succ]
      have K6 := Lib.hid (K5.out.trans G)
      clear G K5
      have hmm := HMM.out
      obtain ⟨i0, hi, hz0, hz1, hz2⟩ := info_parts infoU8
      have hwo : wrap64 (mo : Int) = mo := by unfold wrap64; omega
      have hwo2 : IntKind.i64.wrap (mo : Int) = mo := IntWalk.i64_in _ (by omega)
      have hpl := HPL.out
      have hgl := HGT.out.2.2.2.2
      have hzs := HZMS.out
      have hbs := HBS.out
      go_upto_region 8 with (at_make; refine wpList_make_full _ rfl _ _ 28 rfl wz6.heap.size 5 i0 (.int .u8 0) 1 Try.underlying28 hi hz0 hz1 .i64 .i64 _ _ mo rfl rfl rfl rfl (by rw [hz2]; omega) (by unfold maxLen; omega) (Nat.le_refl _) ?_; intro wk hown0 hgrow0; obtain ⟨hB, hbt⟩ := bytes_made hown0; have hcv := bytes_back hbt mo (by simp); rw [HZM.out] at hcv)
      have K7 := Lib.hid (K6.out.by hgrow0)
      clear hcv hbt hB hown0 hgrow0 hi hz0 hz1 hz2 hpl hgl hzs hbs hmm hwo hwo2 K6
      refine region_lin (W0 := wk) (listF [fun v ww => v = .string s, fun v ww => v = .string s, fun v ww => v = .string ss, fun v ww => v = .string t, fun v ww => v = .string po, fun v ww => v = .string so, fun v ww => v = .string pn, fun v ww => v = .string sn, fun v ww => v = .string pl, fun v ww => v = .string sl, fun v ww => v = .string bd, fun v ww => v = .int .i64 (kk : Int), fun v ww => v = .string p1, fun v ww => v = .string sk, fun v ww => v = .string t, fun v ww => v = .int .i64 (kk : Int), fun v ww => v = .string tk, fun v ww => v = .string bd, fun v ww => v = .string v1, fun v ww => v = .string v2, fun v ww => v = .string bd, fun v ww => v = .string v3, fun v ww => v = .string v4, fun v ww => v = .string t, fun v ww => v = .string bd, fun v ww => v = .int .i64 (m : Int), fun v ww => v = .string v5, fun v ww => v = .string vv, fun v ww => v = .agg #[.string s, .string ss, .string t, .string so, .string sn, .string sl, .string sk, .string tk, .string vv], fun v ww => v = .int .i64 0]) (listF_stable _ ⟨fun _ _ _ _ h => h, fun _ _ _ _ h => h, fun _ _ _ _ h => h, fun _ _ _ _ h => h, fun _ _ _ _ h => h, fun _ _ _ _ h => h, fun _ _ _ _ h => h, fun _ _ _ _ h => h, fun _ _ _ _ h => h, fun _ _ _ _ h => h, fun _ _ _ _ h => h, fun _ _ _ _ h => h, fun _ _ _ _ h => h, fun _ _ _ _ h => h, fun _ _ _ _ h => h, fun _ _ _ _ h => h, fun _ _ _ _ h => h, fun _ _ _ _ h => h, fun _ _ _ _ h => h, fun _ _ _ _ h => h, fun _ _ _ _ h => h, fun _ _ _ _ h => h, fun _ _ _ _ h => h, fun _ _ _ _ h => h, fun _ _ _ _ h => h, fun _ _ _ _ h => h, fun _ _ _ _ h => h, fun _ _ _ _ h => h, fun _ _ _ _ h => h, fun _ _ _ _ h => h, trivial⟩) (by kernel_rfl) (by kernel_rfl) (by kernel_rfl) (by kernel_rfl) (Keep.refl _) ?done8 ?steps8
      case done8 =>
        intro T8 wz8 hJ
        obtain ⟨x0, t0, f0⟩ := hJ.fact 0 78 (by decide) (by kernel_rfl)
        obtain rfl : x0 = .string s := f0
        obtain ⟨x1, t1, f1⟩ := hJ.fact 1 79 (by decide) (by kernel_rfl)
        obtain rfl : x1 = .string s := f1
        obtain ⟨x2, t2, f2⟩ := hJ.fact 2 80 (by decide) (by kernel_rfl)
        obtain rfl : x2 = .string ss := f2
        obtain ⟨x3, t3, f3⟩ := hJ.fact 3 81 (by decide) (by kernel_rfl)
        obtain rfl : x3 = .string t := f3
        obtain ⟨x4, t4, f4⟩ := hJ.fact 4 82 (by decide) (by kernel_rfl)
        obtain rfl : x4 = .string po := f4
        obtain ⟨x5, t5, f5⟩ := hJ.fact 5 83 (by decide) (by kernel_rfl)
        obtain rfl : x5 = .string so := f5
        obtain ⟨x6, t6, f6⟩ := hJ.fact 6 84 (by decide) (by kernel_rfl)
        obtain rfl : x6 = .string pn := f6
        obtain ⟨x7, t7, f7⟩ := hJ.fact 7 85 (by decide) (by kernel_rfl)
        obtain rfl : x7 = .string sn := f7
        obtain ⟨x8, t8, f8⟩ := hJ.fact 8 86 (by decide) (by kernel_rfl)
        obtain rfl : x8 = .string pl := f8
        obtain ⟨x9, t9, f9⟩ := hJ.fact 9 87 (by decide) (by kernel_rfl)
        obtain rfl : x9 = .string sl := f9
        obtain ⟨x10, t10, f10⟩ := hJ.fact 10 88 (by decide) (by kernel_rfl)
        obtain rfl : x10 = .string bd := f10
        obtain ⟨x11, t11, f11⟩ := hJ.fact 11 89 (by decide) (by kernel_rfl)
        obtain rfl : x11 = .int .i64 (kk : Int) := f11
        obtain ⟨x12, t12, f12⟩ := hJ.fact 12 90 (by decide) (by kernel_rfl)
        obtain rfl : x12 = .string p1 := f12
        obtain ⟨x13, t13, f13⟩ := hJ.fact 13 91 (by decide) (by kernel_rfl)
        obtain rfl : x13 = .string sk := f13
        obtain ⟨x14, t14, f14⟩ := hJ.fact 14 92 (by decide) (by kernel_rfl)
        obtain rfl : x14 = .string t := f14
        obtain ⟨x15, t15, f15⟩ := hJ.fact 15 93 (by decide) (by kernel_rfl)
        obtain rfl : x15 = .int .i64 (kk : Int) := f15
        obtain ⟨x16, t16, f16⟩ := hJ.fact 16 94 (by decide) (by kernel_rfl)
        obtain rfl : x16 = .string tk := f16
        obtain ⟨x17, t17, f17⟩ := hJ.fact 17 95 (by decide) (by kernel_rfl)
        obtain rfl : x17 = .string bd := f17
        obtain ⟨x18, t18, f18⟩ := hJ.fact 18 96 (by decide) (by kernel_rfl)
        obtain rfl : x18 = .string v1 := f18
        obtain ⟨x19, t19, f19⟩ := hJ.fact 19 97 (by decide) (by kernel_rfl)
        obtain rfl : x19 = .string v2 := f19
        obtain ⟨x20, t20, f20⟩ := hJ.fact 20 98 (by decide) (by kernel_rfl)
        obtain rfl : x20 = .string bd := f20
        obtain ⟨x21, t21, f21⟩ := hJ.fact 21 99 (by decide) (by kernel_rfl)
        obtain rfl : x21 = .string v3 := f21
        obtain ⟨x22, t22, f22⟩ := hJ.fact 22 100 (by decide) (by kernel_rfl)
        obtain rfl : x22 = .string v4 := f22
        obtain ⟨x23, t23, f23⟩ := hJ.fact 23 101 (by decide) (by kernel_rfl)
        obtain rfl : x23 = .string t := f23
        obtain ⟨x24, t24, f24⟩ := hJ.fact 24 102 (by decide) (by kernel_rfl)
        obtain rfl : x24 = .string bd := f24
        obtain ⟨x25, t25, f25⟩ := hJ.fact 25 103 (by decide) (by kernel_rfl)
        obtain rfl : x25 = .int .i64 (m : Int) := f25
        obtain ⟨x26, t26, f26⟩ := hJ.fact 26 104 (by decide) (by kernel_rfl)
        obtain rfl : x26 = .string v5 := f26
        obtain ⟨x27, t27, f27⟩ := hJ.fact 27 105 (by decide) (by kernel_rfl)
        obtain rfl : x27 = .string vv := f27
        obtain ⟨x28, t28, f28⟩ := hJ.fact 28 106 (by decide) (by kernel_rfl)
        obtain rfl : x28 = .agg #[.string s, .string ss, .string t, .string so, .string sn, .string sl, .string sk, .string tk, .string vv] := f28
        obtain ⟨x29, t29, f29⟩ := hJ.fact 29 107 (by decide) (by kernel_rfl)
        obtain rfl : x29 = .int .i64 0 := f29
        have hfr := hJ.frame [(78, .string s), (79, .string s), (80, .string ss), (81, .string t), (82, .string po), (83, .string so), (84, .string pn), (85, .string sn), (86, .string pl), (87, .string sl), (88, .string bd), (89, .int .i64 (kk : Int)), (90, .string p1), (91, .string sk), (92, .string t), (93, .int .i64 (kk : Int)), (94, .string tk), (95, .string bd), (96, .string v1), (97, .string v2), (98, .string bd), (99, .string v3), (100, .string v4), (101, .string t), (102, .string bd), (103, .int .i64 (m : Int)), (104, .string v5), (105, .string vv), (106, .agg #[.string s, .string ss, .string t, .string so, .string sn, .string sl, .string sk, .string tk, .string vv]), (107, .int .i64 0)] (by simp [t0, t1, t2, t3, t4, t5, t6, t7, t8, t9, t10, t11, t12, t13, t14, t15, t16, t17, t18, t19, t20, t21, t22, t23, t24, t25, t26, t27, t28, t29]) (by kernel_rfl)
        have G := hJ.keep
        clear hJ t0 t1 t2 t3 t4 t5 t6 t7 t8 t9 t10 t11 t12 t13 t14 t15 t16 t17 t18 t19 t20 t21 t22 t23 t24 t25 t26 t27 t28 t29
        rw [hfr]
        clear hfr T8
        simp only [List.foldl_cons, List.foldl_nil, List.setIfInBounds_toArray, List.set_cons_zero, List.set_cons_succ]
        have K8 := Lib.hid (K7.out.trans G)
        clear G K7
        have HX : Hid (∀ j : Nat, j < 9 → ∃ y : ByteArray, y.size ≤ 4200 ∧ ∀ wy : World, (Instr.index 41 (.agg #[.string s, .string ss, .string t, .string so, .string sn, .string sl, .string sk, .string tk, .string vv]) (.int .i64 j)).run Try.prog wy = .ok (.string y) wy) := Lib.hid (by
          intro j hj
          obtain ⟨z1, z2, z3, z4, z5, z6, z7, z8, z9⟩ := HSZ.out
          have : j = 0 ∨ j = 1 ∨ j = 2 ∨ j = 3 ∨ j = 4 ∨ j = 5 ∨ j = 6 ∨ j = 7 ∨ j = 8 := by omega
          rcases this with rfl | rfl | rfl | rfl | rfl | rfl | rfl | rfl | rfl
          · exact ⟨s, z1, fun wy => by kernel_rfl⟩
          · exact ⟨ss, z2, fun wy => by kernel_rfl⟩
          · exact ⟨t, z3, fun wy => by kernel_rfl⟩
          · exact ⟨so, z4, fun wy => by kernel_rfl⟩
          · exact ⟨sn, z5, fun wy => by kernel_rfl⟩
          · exact ⟨sl, z6, fun wy => by kernel_rfl⟩
          · exact ⟨sk, z7, fun wy => by kernel_rfl⟩
          · exact ⟨tk, z8, fun wy => by kernel_rfl⟩
          · exact ⟨vv, z9, fun wy => by kernel_rfl⟩)
        clear HS1 HS2 HS3 HS4 HS5 HU1 HGT HGV HBN HWR HRM HC1 HP1 HP2 HP3 HPO HN1 HN2 HN3 HPN HZM HPL HTK HV1 HV2 HV3 HV4 HV5 HVV HBS HTN HMO HZMS HMM HSZ
        go_wp2_with fail
        go_loopw [19, 20, 21, 22, 23, 107] (fun _ _ _ _ _ i wr => ∃ j : Nat, j ≤ 9 ∧ i = .int .i64 j ∧ Hid (Keep w wr)) (fun _ _ _ _ _ i _ => 9 - (intOf i).toNat)
        case atStart => exact ⟨0, by omega, rfl, K8⟩
        case round =>
          obtain ⟨j, hj, rfl, HKr⟩ := hrel
          by_cases hlt : j < 9
          · obtain ⟨y, hy, hidx⟩ := HX.out j hlt
            have HYM : Hid (y.size ≤ maxLen) := Lib.hid (by unfold maxLen; omega)
            obtain ⟨o, ho⟩ : ∃ o, decP y = o := ⟨_, rfl⟩
            have h1 : ∀ w', Calls Try.prog 19 #[.string y] w' (DecR (decV o) (decE o) w') := fun w' => decode_is y o w' HYM.out (Lib.hid ho)
            have h2 : ∀ w', Calls Try.prog 20 #[.string y] w' (DecR (decV o) (decE o) w') := fun w' => refDecode_is y o w' HYM.out (Lib.hid (by rw [← dec_eq, ho]))
            obtain ⟨f, hf⟩ : ∃ f, decV o = f := ⟨_, rfl⟩
            obtain ⟨ec, hec⟩ : ∃ ec, decE o = ec := ⟨_, rfl⟩
            rw [hf, hec] at h1 h2
            obtain ⟨D', S', T', P', V', Q', N', Y', X'⟩ := f
            have H1 := Lib.hid h1
            have H2 := Lib.hid h2
            clear h1 h2 hf hec ho
            go_wp2_with (first | (go_at_call 19; ((with_reducible refine (H1.out _).mono ?_); rintro e' w4 ⟨rfl, k4⟩)) | (go_at_call 20; ((with_reducible refine (H2.out _).mono ?_); rintro e' w5 ⟨rfl, k5⟩; have hF := fr_k (heap_alloc_new w4 (.cells #[.int .i64 D', .int .i64 S', .bool T', .int .i64 P', .int .i64 V', .bool Q', .int .i64 N', .int .i64 Y', .string X'] 23) : FrAt (w4.alloc (.cells #[.int .i64 D', .int .i64 S', .bool T', .int .i64 P', .int .i64 V', .bool Q', .int .i64 N', .int .i64 Y', .string X'] 23)) w4.heap.size D' S' T' P' V' Q' N' Y' X') (k5.trans ((Keep.refl w5).alloc (.cells #[.int .i64 D', .int .i64 S', .bool T', .int .i64 P', .int .i64 V', .bool Q', .int .i64 N', .int .i64 Y', .string X'] 23))); obtain ⟨c0, c1, c2, c3, c4, c5, c6, c7, c8⟩ := fr_cells hF; clear hF)))
            go_roundw
            case rel => exact ⟨j + 1, by omega, by go_num, Lib.hid ((((HKr.out.trans k4).alloc _).trans k5).alloc _)⟩
            case measure => simp [intOf]; omega
          · obtain rfl : j = 9 := by omega
            go_wp2_with (go_at_call 17; ((with_reducible refine (works_any _).mono ?_); rintro e' w7 ⟨rfl, k7⟩))
            go_ret
            exact ⟨rfl, HKr.out.trans k7⟩
      case steps8 =>
        refine LinSteps.cons (k := 0) ?_ (LinSteps.cons (k := 1) ?_ (LinSteps.cons (k := 2) ?_ (LinSteps.cons (k := 3) ?_ (LinSteps.cons (k := 4) ?_ (LinSteps.cons (k := 5) ?_ (LinSteps.cons (k := 6) ?_ (LinSteps.cons (k := 7) ?_ (LinSteps.cons (k := 8) ?_ (LinSteps.cons (k := 9) ?_ (LinSteps.cons (k := 10) ?_ (LinSteps.cons (k := 11) ?_ (LinSteps.cons (k := 12) ?_ (LinSteps.cons (k := 13) ?_ (LinSteps.cons (k := 14) ?_ (LinSteps.cons (k := 15) ?_ (LinSteps.cons (k := 16) ?_ (LinSteps.cons (k := 17) ?_ (LinSteps.cons (k := 18) ?_ (LinSteps.cons (k := 19) ?_ (LinSteps.cons (k := 20) ?_ (LinSteps.cons (k := 21) ?_ (LinSteps.cons (k := 22) ?_ (LinSteps.cons (k := 23) ?_ (LinSteps.cons (k := 24) ?_ (LinSteps.cons (k := 25) ?_ (LinSteps.cons (k := 26) ?_ (LinSteps.cons (k := 27) ?_ (LinSteps.cons (k := 28) ?_ (LinSteps.cons (k := 29) ?_ (LinSteps.nil))))))))))))))))))))))))))))))
        · -- 0
          refine LinStep.plain rfl ?_
          intro QQ bb T ww hn hJ hd K HK
          have s0 := (hJ.oldSlot 0 (by kernel_rfl))
          simp only [List.getElem?_toArray, List.getElem?_cons_zero] at s0
          have G := hJ.keep
          clear hJ hd hn
          go_simp
          exact HK.out _ _ (Keep.refl _) rfl
        · -- 1
          refine LinStep.plain rfl ?_
          intro QQ bb T ww hn hJ hd K HK
          have s0 := (hJ.oldSlot 0 (by kernel_rfl))
          simp only [List.getElem?_toArray, List.getElem?_cons_zero] at s0
          have G := hJ.keep
          clear hJ hd hn
          go_simp
          exact HK.out _ _ (Keep.refl _) rfl
        · -- 2
          refine LinStep.plain rfl ?_
          intro QQ bb T ww hn hJ hd K HK
          obtain ⟨x1, t1, f1⟩ := hJ.dep hd 1 79 (by kernel_rfl) (by kernel_rfl)
          obtain rfl : x1 = .string s := f1
          have G := hJ.keep
          clear hJ hd hn
          go_wp2_with (go_at_call 18; ((with_reducible refine (refSeal_is s ss _ HU1.out.1 HS1).mono ?_); rintro e' w9 ⟨rfl, hk⟩))
          exact HK.out _ _ hk rfl
        · -- 3
          refine LinStep.plain rfl ?_
          intro QQ bb T ww hn hJ hd K HK
          have s11 := (hJ.oldSlot 11 (by kernel_rfl))
          simp only [List.getElem?_toArray, List.getElem?_cons_zero, List.getElem?_cons_succ] at s11
          have G := hJ.keep
          clear hJ hd hn
          go_simp
          exact HK.out _ _ (Keep.refl _) rfl
        · -- 4
          refine LinStep.plain rfl ?_
          intro QQ bb T ww hn hJ hd K HK
          have s15 := (hJ.oldSlot 15 (by kernel_rfl))
          simp only [List.getElem?_toArray, List.getElem?_cons_zero, List.getElem?_cons_succ] at s15
          have G := hJ.keep
          clear hJ hd hn
          go_simp
          exact HK.out _ _ (Keep.refl _) rfl
        · -- 5
          refine LinStep.plain rfl ?_
          intro QQ bb T ww hn hJ hd K HK
          obtain ⟨x4, t4, f4⟩ := hJ.dep hd 4 82 (by kernel_rfl) (by kernel_rfl)
          obtain rfl : x4 = .string po := f4
          have G := hJ.keep
          clear hJ hd hn
          go_wp2_with (go_at_call 18; ((with_reducible refine (refSeal_is po so _ HU1.out.2.1 HS2).mono ?_); rintro e' w9 ⟨rfl, hk⟩))
          exact HK.out _ _ hk rfl
        · -- 6
          refine LinStep.plain rfl ?_
          intro QQ bb T ww hn hJ hd K HK
          have s16 := (hJ.oldSlot 16 (by kernel_rfl))
          simp only [List.getElem?_toArray, List.getElem?_cons_zero, List.getElem?_cons_succ] at s16
          have G := hJ.keep
          clear hJ hd hn
          go_simp
          exact HK.out _ _ (Keep.refl _) rfl
        · -- 7
          refine LinStep.plain rfl ?_
          intro QQ bb T ww hn hJ hd K HK
          obtain ⟨x6, t6, f6⟩ := hJ.dep hd 6 84 (by kernel_rfl) (by kernel_rfl)
          obtain rfl : x6 = .string pn := f6
          have G := hJ.keep
          clear hJ hd hn
          go_wp2_with (go_at_call 18; ((with_reducible refine (refSeal_is pn sn _ HU1.out.2.2.1 HS3).mono ?_); rintro e' w9 ⟨rfl, hk⟩))
          exact HK.out _ _ hk rfl
        · -- 8
          refine LinStep.plain rfl ?_
          intro QQ bb T ww hn hJ hd K HK
          have s17 := (hJ.oldSlot 17 (by kernel_rfl))
          simp only [List.getElem?_toArray, List.getElem?_cons_zero, List.getElem?_cons_succ] at s17
          have G := hJ.keep
          clear hJ hd hn
          go_simp
          exact HK.out _ _ (Keep.refl _) rfl
        · -- 9
          refine LinStep.plain rfl ?_
          intro QQ bb T ww hn hJ hd K HK
          obtain ⟨x8, t8, f8⟩ := hJ.dep hd 8 86 (by kernel_rfl) (by kernel_rfl)
          obtain rfl : x8 = .string pl := f8
          have G := hJ.keep
          clear hJ hd hn
          go_wp2_with (go_at_call 18; ((with_reducible refine (refSeal_is pl sl _ HU1.out.2.2.2.1 HS4).mono ?_); rintro e' w9 ⟨rfl, hk⟩))
          exact HK.out _ _ hk rfl
        · -- 10
          refine LinStep.plain rfl ?_
          intro QQ bb T ww hn hJ hd K HK
          have s13 := (hJ.oldSlot 13 (by kernel_rfl))
          simp only [List.getElem?_toArray, List.getElem?_cons_zero, List.getElem?_cons_succ] at s13
          have G := hJ.keep
          clear hJ hd hn
          go_simp
          exact HK.out _ _ (Keep.refl _) rfl
        · -- 11
          refine LinStep.plain rfl ?_
          intro QQ bb T ww hn hJ hd K HK
          have s14 := (hJ.oldSlot 14 (by kernel_rfl))
          simp only [List.getElem?_toArray, List.getElem?_cons_zero, List.getElem?_cons_succ] at s14
          have G := hJ.keep
          clear hJ hd hn
          go_simp
          exact HK.out _ _ (Keep.refl _) rfl
        · -- 12
          refine LinStep.plain rfl ?_
          intro QQ bb T ww hn hJ hd K HK
          obtain ⟨x10, t10, f10⟩ := hJ.dep hd 10 88 (by kernel_rfl) (by kernel_rfl)
          obtain rfl : x10 = .string bd := f10
          obtain ⟨x11, t11, f11⟩ := hJ.dep hd 11 89 (by kernel_rfl) (by kernel_rfl)
          obtain rfl : x11 = .int .i64 (kk : Int) := f11
          have G := hJ.keep
          clear hJ hd hn
          have h1 := HP1.out
          have b0 := HBN.out
          obtain ⟨b1, b2, b3, b4, b5, b6, b7⟩ := b0
          have b8 := HBS.out
          have b9 := HTN.out
          go_simp
          exact HK.out _ _ (Keep.refl _) rfl
        · -- 13
          refine LinStep.plain rfl ?_
          intro QQ bb T ww hn hJ hd K HK
          obtain ⟨x12, t12, f12⟩ := hJ.dep hd 12 90 (by kernel_rfl) (by kernel_rfl)
          obtain rfl : x12 = .string p1 := f12
          have G := hJ.keep
          clear hJ hd hn
          go_wp2_with (go_at_call 18; ((with_reducible refine (refSeal_is p1 sk _ HU1.out.2.2.2.2 HS5).mono ?_); rintro e' w9 ⟨rfl, hk⟩))
          exact HK.out _ _ hk rfl
        · -- 14
          refine LinStep.plain rfl ?_
          intro QQ bb T ww hn hJ hd K HK
          have s11 := (hJ.oldSlot 11 (by kernel_rfl))
          simp only [List.getElem?_toArray, List.getElem?_cons_zero, List.getElem?_cons_succ] at s11
          have G := hJ.keep
          clear hJ hd hn
          go_simp
          exact HK.out _ _ (Keep.refl _) rfl
        · -- 15
          refine LinStep.plain rfl ?_
          intro QQ bb T ww hn hJ hd K HK
          have s14 := (hJ.oldSlot 14 (by kernel_rfl))
          simp only [List.getElem?_toArray, List.getElem?_cons_zero, List.getElem?_cons_succ] at s14
          have G := hJ.keep
          clear hJ hd hn
          go_simp
          exact HK.out _ _ (Keep.refl _) rfl
        · -- 16
          refine LinStep.plain rfl ?_
          intro QQ bb T ww hn hJ hd K HK
          obtain ⟨x14, t14, f14⟩ := hJ.dep hd 14 92 (by kernel_rfl) (by kernel_rfl)
          obtain rfl : x14 = .string t := f14
          obtain ⟨x15, t15, f15⟩ := hJ.dep hd 15 93 (by kernel_rfl) (by kernel_rfl)
          obtain rfl : x15 = .int .i64 (kk : Int) := f15
          have G := hJ.keep
          clear hJ hd hn
          have h1 := HTK.out
          have b0 := HBN.out
          obtain ⟨b1, b2, b3, b4, b5, b6, b7⟩ := b0
          have b8 := HBS.out
          have b9 := HTN.out
          go_simp
          exact HK.out _ _ (Keep.refl _) rfl
        · -- 17
          refine LinStep.plain rfl ?_
          intro QQ bb T ww hn hJ hd K HK
          have s13 := (hJ.oldSlot 13 (by kernel_rfl))
          simp only [List.getElem?_toArray, List.getElem?_cons_zero, List.getElem?_cons_succ] at s13
          have G := hJ.keep
          clear hJ hd hn
          go_simp
          exact HK.out _ _ (Keep.refl _) rfl
        · -- 18
          refine LinStep.plain rfl ?_
          intro QQ bb T ww hn hJ hd K HK
          obtain ⟨x17, t17, f17⟩ := hJ.dep hd 17 95 (by kernel_rfl) (by kernel_rfl)
          obtain rfl : x17 = .string bd := f17
          have G := hJ.keep
          clear hJ hd hn
          have h1 := HV1.out
          have b0 := HBN.out
          obtain ⟨b1, b2, b3, b4, b5, b6, b7⟩ := b0
          have b8 := HBS.out
          have b9 := HTN.out
          go_simp
          exact HK.out _ _ (Keep.refl _) rfl
        · -- 19
          refine LinStep.plain rfl ?_
          intro QQ bb T ww hn hJ hd K HK
          obtain ⟨x18, t18, f18⟩ := hJ.dep hd 18 96 (by kernel_rfl) (by kernel_rfl)
          obtain rfl : x18 = .string v1 := f18
          have G := hJ.keep
          clear hJ hd hn
          have h1 := HV2.out
          have h2 := HGV.out.1
          have h3 : (⟨#[129, 0, 15, 255]⟩ : ByteArray).size = 4 := rfl
          go_simp
          exact HK.out _ _ (Keep.refl _) rfl
        · -- 20
          refine LinStep.plain rfl ?_
          intro QQ bb T ww hn hJ hd K HK
          have s13 := (hJ.oldSlot 13 (by kernel_rfl))
          simp only [List.getElem?_toArray, List.getElem?_cons_zero, List.getElem?_cons_succ] at s13
          have G := hJ.keep
          clear hJ hd hn
          go_simp
          exact HK.out _ _ (Keep.refl _) rfl
        · -- 21
          refine LinStep.plain rfl ?_
          intro QQ bb T ww hn hJ hd K HK
          obtain ⟨x20, t20, f20⟩ := hJ.dep hd 20 98 (by kernel_rfl) (by kernel_rfl)
          obtain rfl : x20 = .string bd := f20
          have G := hJ.keep
          clear hJ hd hn
          have h1 := HV3.out
          have b0 := HBN.out
          obtain ⟨b1, b2, b3, b4, b5, b6, b7⟩ := b0
          have b8 := HBS.out
          have b9 := HTN.out
          go_simp
          exact HK.out _ _ (Keep.refl _) rfl
        · -- 22
          refine LinStep.plain rfl ?_
          intro QQ bb T ww hn hJ hd K HK
          obtain ⟨x19, t19, f19⟩ := hJ.dep hd 19 97 (by kernel_rfl) (by kernel_rfl)
          obtain rfl : x19 = .string v2 := f19
          obtain ⟨x21, t21, f21⟩ := hJ.dep hd 21 99 (by kernel_rfl) (by kernel_rfl)
          obtain rfl : x21 = .string v3 := f21
          have G := hJ.keep
          clear hJ hd hn
          have h1 := HV4.out
          have h2 := HGV.out.2.1
          go_simp
          exact HK.out _ _ (Keep.refl _) rfl
        · -- 23
          refine LinStep.plain rfl ?_
          intro QQ bb T ww hn hJ hd K HK
          have s11 := (hJ.oldSlot 11 (by kernel_rfl))
          simp only [List.getElem?_toArray, List.getElem?_cons_zero, List.getElem?_cons_succ] at s11
          have G := hJ.keep
          clear hJ hd hn
          go_simp
          exact HK.out _ _ (Keep.refl _) rfl
        · -- 24
          refine LinStep.plain rfl ?_
          intro QQ bb T ww hn hJ hd K HK
          have s13 := (hJ.oldSlot 13 (by kernel_rfl))
          simp only [List.getElem?_toArray, List.getElem?_cons_zero, List.getElem?_cons_succ] at s13
          have G := hJ.keep
          clear hJ hd hn
          go_simp
          exact HK.out _ _ (Keep.refl _) rfl
        · -- 25
          refine LinStep.plain rfl ?_
          intro QQ bb T ww hn hJ hd K HK
          obtain ⟨x24, t24, f24⟩ := hJ.dep hd 24 102 (by kernel_rfl) (by kernel_rfl)
          obtain rfl : x24 = .string bd := f24
          have G := hJ.keep
          clear hJ hd hn
          have b8 := HBS.out
          go_simp
          exact HK.out _ _ (Keep.refl _) rfl
        · -- 26
          refine LinStep.plain rfl ?_
          intro QQ bb T ww hn hJ hd K HK
          obtain ⟨x23, t23, f23⟩ := hJ.dep hd 23 101 (by kernel_rfl) (by kernel_rfl)
          obtain rfl : x23 = .string t := f23
          obtain ⟨x25, t25, f25⟩ := hJ.dep hd 25 103 (by kernel_rfl) (by kernel_rfl)
          obtain rfl : x25 = .int .i64 (m : Int) := f25
          have G := hJ.keep
          clear hJ hd hn
          have h1 := HV5.out
          have b0 := HBN.out
          obtain ⟨b1, b2, b3, b4, b5, b6, b7⟩ := b0
          have b8 := HBS.out
          have b9 := HTN.out
          go_simp
          exact HK.out _ _ (Keep.refl _) rfl
        · -- 27
          refine LinStep.plain rfl ?_
          intro QQ bb T ww hn hJ hd K HK
          obtain ⟨x22, t22, f22⟩ := hJ.dep hd 22 100 (by kernel_rfl) (by kernel_rfl)
          obtain rfl : x22 = .string v4 := f22
          obtain ⟨x26, t26, f26⟩ := hJ.dep hd 26 104 (by kernel_rfl) (by kernel_rfl)
          obtain rfl : x26 = .string v5 := f26
          have G := hJ.keep
          clear hJ hd hn
          have h1 := HVV.out
          have h2 := HGV.out.2.2
          go_simp
          exact HK.out _ _ (Keep.refl _) rfl
        · -- 28
          refine LinStep.plain rfl ?_
          intro QQ bb T ww hn hJ hd K HK
          obtain ⟨x0, t0, f0⟩ := hJ.dep hd 0 78 (by kernel_rfl) (by kernel_rfl)
          obtain rfl : x0 = .string s := f0
          obtain ⟨x2, t2, f2⟩ := hJ.dep hd 2 80 (by kernel_rfl) (by kernel_rfl)
          obtain rfl : x2 = .string ss := f2
          obtain ⟨x3, t3, f3⟩ := hJ.dep hd 3 81 (by kernel_rfl) (by kernel_rfl)
          obtain rfl : x3 = .string t := f3
          obtain ⟨x5, t5, f5⟩ := hJ.dep hd 5 83 (by kernel_rfl) (by kernel_rfl)
          obtain rfl : x5 = .string so := f5
          obtain ⟨x7, t7, f7⟩ := hJ.dep hd 7 85 (by kernel_rfl) (by kernel_rfl)
          obtain rfl : x7 = .string sn := f7
          obtain ⟨x9, t9, f9⟩ := hJ.dep hd 9 87 (by kernel_rfl) (by kernel_rfl)
          obtain rfl : x9 = .string sl := f9
          obtain ⟨x13, t13, f13⟩ := hJ.dep hd 13 91 (by kernel_rfl) (by kernel_rfl)
          obtain rfl : x13 = .string sk := f13
          obtain ⟨x16, t16, f16⟩ := hJ.dep hd 16 94 (by kernel_rfl) (by kernel_rfl)
          obtain rfl : x16 = .string tk := f16
          obtain ⟨x27, t27, f27⟩ := hJ.dep hd 27 105 (by kernel_rfl) (by kernel_rfl)
          obtain rfl : x27 = .string vv := f27
          have G := hJ.keep
          clear hJ hd hn
          go_simp
          exact HK.out _ _ (Keep.refl _) rfl
        · -- 29
          refine LinStep.plain rfl ?_
          intro QQ bb T ww hn hJ hd K HK
          have G := hJ.keep
          clear hJ hd hn
          go_simp
          exact HK.out _ _ (Keep.refl _) rfl
    case steps6 =>
      refine LinSteps.cons (k := 0) ?_ (LinSteps.cons (k := 1) ?_ (LinSteps.cons (k := 2) ?_ (LinSteps.cons (k := 3) ?_ (LinSteps.cons (k := 4) ?_ (LinSteps.cons (k := 5) ?_ (LinSteps.cons (k := 6) ?_ (LinSteps.cons (k := 7) ?_ (LinSteps.cons (k := 8) ?_ (LinSteps.cons (k := 9) ?_ (LinSteps.cons (k := 10) ?_ (LinSteps.cons (k := 11) ?_ (LinSteps.cons (k := 12) ?_ (LinSteps.cons (k := 13) ?_ (LinSteps.cons (k := 14) ?_ (LinSteps.cons (k := 15) ?_ (LinSteps.nil))))))))))))))))
      · -- 0
        refine LinStep.plain rfl ?_
        intro QQ bb T ww hn hJ hd K HK
        have s13 := (hJ.oldSlot 13 (by kernel_rfl))
        simp only [List.getElem?_toArray, List.getElem?_cons_zero, List.getElem?_cons_succ] at s13
        have G := hJ.keep
        clear hJ hd hn
        go_simp
        exact HK.out _ _ (Keep.refl _) rfl
      · -- 1
        refine LinStep.plain rfl ?_
        intro QQ bb T ww hn hJ hd K HK
        have s14 := (hJ.oldSlot 14 (by kernel_rfl))
        simp only [List.getElem?_toArray, List.getElem?_cons_zero, List.getElem?_cons_succ] at s14
        have G := hJ.keep
        clear hJ hd hn
        go_simp
        exact HK.out _ _ (Keep.refl _) rfl
      · -- 2
        refine LinStep.plain rfl ?_
        intro QQ bb T ww hn hJ hd K HK
        obtain ⟨x1, t1, f1⟩ := hJ.dep hd 1 58 (by kernel_rfl) (by kernel_rfl)
        obtain rfl : x1 = .int .i64 (kk : Int) := f1
        have G := hJ.keep
        clear hJ hd hn
        have h1 := HRM.out.1
        have h2 := HRM.out.2
        have h3 := HWR.out.2.2.2
        go_simp
        exact HK.out _ _ (Keep.refl _) rfl
      · -- 3
        refine LinStep.plain rfl ?_
        intro QQ bb T ww hn hJ hd K HK
        obtain ⟨x2, t2, f2⟩ := hJ.dep hd 2 59 (by kernel_rfl) (by kernel_rfl)
        obtain rfl : x2 = .int .i64 (r : Int) := f2
        have G := hJ.keep
        clear hJ hd hn
        have h1 := HWR.out.2.1
        go_simp
        exact HK.out _ _ (Keep.refl _) rfl
      · -- 4
        refine LinStep.plain rfl ?_
        intro QQ bb T ww hn hJ hd K HK
        obtain ⟨x0, t0, f0⟩ := hJ.dep hd 0 57 (by kernel_rfl) (by kernel_rfl)
        obtain rfl : x0 = .string bd := f0
        obtain ⟨x3, t3, f3⟩ := hJ.dep hd 3 60 (by kernel_rfl) (by kernel_rfl)
        obtain rfl : x3 = .int .i64 (q0 : Int) := f3
        have G := hJ.keep
        clear hJ hd hn
        have h1 := HN1.out
        have b0 := HBN.out
        obtain ⟨b1, b2, b3, b4, b5, b6, b7⟩ := b0
        have b8 := HBS.out
        have b9 := HTN.out
        go_simp
        exact HK.out _ _ (Keep.refl _) rfl
      · -- 5
        refine LinStep.plain rfl ?_
        intro QQ bb T ww hn hJ hd K HK
        have s3 := (hJ.oldSlot 3 (by kernel_rfl))
        simp only [List.getElem?_toArray, List.getElem?_cons_zero, List.getElem?_cons_succ] at s3
        have G := hJ.keep
        clear hJ hd hn
        go_simp
        exact HK.out _ _ (Keep.refl _) rfl
      · -- 6
        refine LinStep.plain rfl ?_
        intro QQ bb T ww hn hJ hd K HK
        obtain ⟨x5, t5, f5⟩ := hJ.dep hd 5 62 (by kernel_rfl) (by kernel_rfl)
        obtain rfl : x5 = .int .u8 c := f5
        have G := hJ.keep
        clear hJ hd hn
        go_simp
        exact HK.out _ _ (Keep.alloc (Keep.refl _) _) (⟨_, rfl, by simp [go_sem]⟩)
      · -- 7
        refine LinStep.plain rfl ?_
        intro QQ bb T ww hn hJ hd K HK
        obtain ⟨x6, t6, f6⟩ := hJ.dep hd 6 63 (by kernel_rfl) (by kernel_rfl)
        replace f6 : ∃ B, x6 = .slice (some ⟨B, 0, none⟩) 1 1 ∧ ww.cell? ⟨B, 0, none⟩ = some (.int .u8 c) := f6
        obtain ⟨B, rfl, hB⟩ := f6
        have G := hJ.keep
        clear hJ hd hn
        have hcv := byte_at_block c ww B hB
        rw [HC1.out] at hcv
        go_simp
        exact HK.out _ _ (Keep.refl _) rfl
      · -- 8
        refine LinStep.plain rfl ?_
        intro QQ bb T ww hn hJ hd K HK
        obtain ⟨x4, t4, f4⟩ := hJ.dep hd 4 61 (by kernel_rfl) (by kernel_rfl)
        obtain rfl : x4 = .string n1 := f4
        obtain ⟨x7, t7, f7⟩ := hJ.dep hd 7 64 (by kernel_rfl) (by kernel_rfl)
        obtain rfl : x7 = .string c1 := f7
        have G := hJ.keep
        clear hJ hd hn
        have h1 := HN2.out
        have h2 := HGT.out.2.2.1
        go_simp
        exact HK.out _ _ (Keep.refl _) rfl
      · -- 9
        refine LinStep.plain rfl ?_
        intro QQ bb T ww hn hJ hd K HK
        have s13 := (hJ.oldSlot 13 (by kernel_rfl))
        simp only [List.getElem?_toArray, List.getElem?_cons_zero, List.getElem?_cons_succ] at s13
        have G := hJ.keep
        clear hJ hd hn
        go_simp
        exact HK.out _ _ (Keep.refl _) rfl
      · -- 10
        refine LinStep.plain rfl ?_
        intro QQ bb T ww hn hJ hd K HK
        have s14 := (hJ.oldSlot 14 (by kernel_rfl))
        simp only [List.getElem?_toArray, List.getElem?_cons_zero, List.getElem?_cons_succ] at s14
        have G := hJ.keep
        clear hJ hd hn
        go_simp
        exact HK.out _ _ (Keep.refl _) rfl
      · -- 11
        refine LinStep.plain rfl ?_
        intro QQ bb T ww hn hJ hd K HK
        obtain ⟨x10, t10, f10⟩ := hJ.dep hd 10 67 (by kernel_rfl) (by kernel_rfl)
        obtain rfl : x10 = .int .i64 (kk : Int) := f10
        have G := hJ.keep
        clear hJ hd hn
        have h1 := HRM.out.1
        have h2 := HRM.out.2
        have h3 := HWR.out.2.2.2
        go_simp
        exact HK.out _ _ (Keep.refl _) rfl
      · -- 12
        refine LinStep.plain rfl ?_
        intro QQ bb T ww hn hJ hd K HK
        obtain ⟨x11, t11, f11⟩ := hJ.dep hd 11 68 (by kernel_rfl) (by kernel_rfl)
        obtain rfl : x11 = .int .i64 (r : Int) := f11
        have G := hJ.keep
        clear hJ hd hn
        have h1 := HWR.out.2.2.1
        go_simp
        exact HK.out _ _ (Keep.refl _) rfl
      · -- 13
        refine LinStep.plain rfl ?_
        intro QQ bb T ww hn hJ hd K HK
        obtain ⟨x9, t9, f9⟩ := hJ.dep hd 9 66 (by kernel_rfl) (by kernel_rfl)
        obtain rfl : x9 = .string bd := f9
        obtain ⟨x12, t12, f12⟩ := hJ.dep hd 12 69 (by kernel_rfl) (by kernel_rfl)
        obtain rfl : x12 = .int .i64 (q1 : Int) := f12
        have G := hJ.keep
        clear hJ hd hn
        have h1 := HN3.out
        have b0 := HBN.out
        obtain ⟨b1, b2, b3, b4, b5, b6, b7⟩ := b0
        have b8 := HBS.out
        have b9 := HTN.out
        go_simp
        exact HK.out _ _ (Keep.refl _) rfl
      · -- 14
        refine LinStep.plain rfl ?_
        intro QQ bb T ww hn hJ hd K HK
        obtain ⟨x8, t8, f8⟩ := hJ.dep hd 8 65 (by kernel_rfl) (by kernel_rfl)
        obtain rfl : x8 = .string n2 := f8
        obtain ⟨x13, t13, f13⟩ := hJ.dep hd 13 70 (by kernel_rfl) (by kernel_rfl)
        obtain rfl : x13 = .string n3 := f13
        have G := hJ.keep
        clear hJ hd hn
        have h1 := HPN.out
        have h2 := HGT.out.2.2.2.1
        go_simp
        exact HK.out _ _ (Keep.refl _) rfl
      · -- 15
        refine LinStep.plain rfl ?_
        intro QQ bb T ww hn hJ hd K HK
        obtain ⟨x14, t14, f14⟩ := hJ.dep hd 14 71 (by kernel_rfl) (by kernel_rfl)
        obtain rfl : x14 = .string pn := f14
        have G := hJ.keep
        clear hJ hd hn
        go_simp
        exact HK.out _ _ (Keep.refl _) rfl
  case steps5 =>
    refine LinSteps.cons (k := 0) ?_ (LinSteps.cons (k := 1) ?_ (LinSteps.cons (k := 2) ?_ (LinSteps.cons (k := 3) ?_ (LinSteps.cons (k := 4) ?_ (LinSteps.cons (k := 5) ?_ (LinSteps.cons (k := 6) ?_ (LinSteps.cons (k := 7) ?_ (LinSteps.cons (k := 8) ?_ (LinSteps.cons (k := 9) ?_ (LinSteps.cons (k := 10) ?_ (LinSteps.cons (k := 11) ?_ (LinSteps.cons (k := 12) ?_ (LinSteps.nil)))))))))))))
    · -- 0
      refine LinStep.plain rfl ?_
      intro QQ bb T ww hn hJ hd K HK
      have s13 := (hJ.oldSlot 13 (by kernel_rfl))
      simp only [List.getElem?_toArray, List.getElem?_cons_zero, List.getElem?_cons_succ] at s13
      have G := hJ.keep
      clear hJ hd hn
      go_simp
      exact HK.out _ _ (Keep.refl _) rfl
    · -- 1
      refine LinStep.plain rfl ?_
      intro QQ bb T ww hn hJ hd K HK
      have s14 := (hJ.oldSlot 14 (by kernel_rfl))
      simp only [List.getElem?_toArray, List.getElem?_cons_zero, List.getElem?_cons_succ] at s14
      have G := hJ.keep
      clear hJ hd hn
      go_simp
      exact HK.out _ _ (Keep.refl _) rfl
    · -- 2
      refine LinStep.plain rfl ?_
      intro QQ bb T ww hn hJ hd K HK
      obtain ⟨x0, t0, f0⟩ := hJ.dep hd 0 45 (by kernel_rfl) (by kernel_rfl)
      obtain rfl : x0 = .string bd := f0
      obtain ⟨x1, t1, f1⟩ := hJ.dep hd 1 46 (by kernel_rfl) (by kernel_rfl)
      obtain rfl : x1 = .int .i64 (kk : Int) := f1
      have G := hJ.keep
      clear hJ hd hn
      have h1 := HP1.out
      have b0 := HBN.out
      obtain ⟨b1, b2, b3, b4, b5, b6, b7⟩ := b0
      have b8 := HBS.out
      have b9 := HTN.out
      go_simp
      exact HK.out _ _ (Keep.refl _) rfl
    · -- 3
      refine LinStep.plain rfl ?_
      intro QQ bb T ww hn hJ hd K HK
      have s3 := (hJ.oldSlot 3 (by kernel_rfl))
      simp only [List.getElem?_toArray, List.getElem?_cons_zero, List.getElem?_cons_succ] at s3
      have G := hJ.keep
      clear hJ hd hn
      go_simp
      exact HK.out _ _ (Keep.refl _) rfl
    · -- 4
      refine LinStep.plain rfl ?_
      intro QQ bb T ww hn hJ hd K HK
      obtain ⟨x3, t3, f3⟩ := hJ.dep hd 3 48 (by kernel_rfl) (by kernel_rfl)
      obtain rfl : x3 = .int .u8 c := f3
      have G := hJ.keep
      clear hJ hd hn
      go_simp
      exact HK.out _ _ (Keep.alloc (Keep.refl _) _) (⟨_, rfl, by simp [go_sem]⟩)
    · -- 5
      refine LinStep.plain rfl ?_
      intro QQ bb T ww hn hJ hd K HK
      obtain ⟨x4, t4, f4⟩ := hJ.dep hd 4 49 (by kernel_rfl) (by kernel_rfl)
      replace f4 : ∃ B, x4 = .slice (some ⟨B, 0, none⟩) 1 1 ∧ ww.cell? ⟨B, 0, none⟩ = some (.int .u8 c) := f4
      obtain ⟨B, rfl, hB⟩ := f4
      have G := hJ.keep
      clear hJ hd hn
      have hcv := byte_at_block c ww B hB
      rw [HC1.out] at hcv
      go_simp
      exact HK.out _ _ (Keep.refl _) rfl
    · -- 6
      refine LinStep.plain rfl ?_
      intro QQ bb T ww hn hJ hd K HK
      obtain ⟨x2, t2, f2⟩ := hJ.dep hd 2 47 (by kernel_rfl) (by kernel_rfl)
      obtain rfl : x2 = .string p1 := f2
      obtain ⟨x5, t5, f5⟩ := hJ.dep hd 5 50 (by kernel_rfl) (by kernel_rfl)
      obtain rfl : x5 = .string c1 := f5
      have G := hJ.keep
      clear hJ hd hn
      have h1 := HP2.out
      have h2 := HGT.out.1
      go_simp
      exact HK.out _ _ (Keep.refl _) rfl
    · -- 7
      refine LinStep.plain rfl ?_
      intro QQ bb T ww hn hJ hd K HK
      have s13 := (hJ.oldSlot 13 (by kernel_rfl))
      simp only [List.getElem?_toArray, List.getElem?_cons_zero, List.getElem?_cons_succ] at s13
      have G := hJ.keep
      clear hJ hd hn
      go_simp
      exact HK.out _ _ (Keep.refl _) rfl
    · -- 8
      refine LinStep.plain rfl ?_
      intro QQ bb T ww hn hJ hd K HK
      have s14 := (hJ.oldSlot 14 (by kernel_rfl))
      simp only [List.getElem?_toArray, List.getElem?_cons_zero, List.getElem?_cons_succ] at s14
      have G := hJ.keep
      clear hJ hd hn
      go_simp
      exact HK.out _ _ (Keep.refl _) rfl
    · -- 9
      refine LinStep.plain rfl ?_
      intro QQ bb T ww hn hJ hd K HK
      obtain ⟨x8, t8, f8⟩ := hJ.dep hd 8 53 (by kernel_rfl) (by kernel_rfl)
      obtain rfl : x8 = .int .i64 (kk : Int) := f8
      have G := hJ.keep
      clear hJ hd hn
      have h1 := HWR.out.1
      go_simp
      exact HK.out _ _ (Keep.refl _) rfl
    · -- 10
      refine LinStep.plain rfl ?_
      intro QQ bb T ww hn hJ hd K HK
      obtain ⟨x7, t7, f7⟩ := hJ.dep hd 7 52 (by kernel_rfl) (by kernel_rfl)
      obtain rfl : x7 = .string bd := f7
      obtain ⟨x9, t9, f9⟩ := hJ.dep hd 9 54 (by kernel_rfl) (by kernel_rfl)
      obtain rfl : x9 = .int .i64 (k1 : Int) := f9
      have G := hJ.keep
      clear hJ hd hn
      have h1 := HP3.out
      have b0 := HBN.out
      obtain ⟨b1, b2, b3, b4, b5, b6, b7⟩ := b0
      have b8 := HBS.out
      have b9 := HTN.out
      go_simp
      exact HK.out _ _ (Keep.refl _) rfl
    · -- 11
      refine LinStep.plain rfl ?_
      intro QQ bb T ww hn hJ hd K HK
      obtain ⟨x6, t6, f6⟩ := hJ.dep hd 6 51 (by kernel_rfl) (by kernel_rfl)
      obtain rfl : x6 = .string p2 := f6
      obtain ⟨x10, t10, f10⟩ := hJ.dep hd 10 55 (by kernel_rfl) (by kernel_rfl)
      obtain rfl : x10 = .string p3 := f10
      have G := hJ.keep
      clear hJ hd hn
      have h1 := HPO.out
      have h2 := HGT.out.2.1
      go_simp
      exact HK.out _ _ (Keep.refl _) rfl
    · -- 12
      refine LinStep.plain rfl ?_
      intro QQ bb T ww hn hJ hd K HK
      obtain ⟨x11, t11, f11⟩ := hJ.dep hd 11 56 (by kernel_rfl) (by kernel_rfl)
      obtain rfl : x11 = .string po := f11
      have G := hJ.keep
      clear hJ hd hn
      go_simp
      exact HK.out _ _ (Keep.refl _) rfl
end Go.Proofs.Ytmgnmkdjphnaoaa
