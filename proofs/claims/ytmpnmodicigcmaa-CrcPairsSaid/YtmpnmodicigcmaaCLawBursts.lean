/- CrcBursts answers true for every input. -/
import Derived.Test.YtmpnmodicigcmaaCSlice
import Derived.Deep.Cut
import Derived.Deep.DeepCutAuto
namespace Go.Proofs.Ytmpnmodicigcmaa
open Go Go.RowKit

theorem data_ext {a b : ByteArray} (h : a.data.toList = b.data.toList) : a = b := by
  apply ByteArray.ext
  exact Array.toList_inj.1 h
theorem flip_burst (s : ByteArray) (a p : Nat) (g : BitVec 32) (h : flipS s a p ≠ s) (hg : goodS s g = true) : goodS (flipS s a p) g = false := by
  unfold goodS at *
  rw [flipS_list]
  refine burst_not_good (a := a) g (flipN_length _ _ _ _) (fun i hi => ?_) (fun e => h (data_ext e)) hg
  rw [flipN_bit, decide_eq_false (by omega)]
  simp
theorem seal_good (u : ByteArray) (g : BitVec 32) : goodS (sealG u g) g = true := by
  unfold goodS
  rw [sealG_list]
  exact good_chk _ g
theorem seal_other (u : ByteArray) {g h : BitVec 32} (hne : g ≠ h) : goodS (sealG u g) h = false := by
  unfold goodS
  rw [sealG_list]
  exact good_other _ hne
set_option maxRecDepth 100000 in
set_option maxHeartbeats 2000000 in
theorem lawBursts_any (s : ByteArray) (a0 p : Nat) (w : World) (hs : s.size ≤ maxLen) (ha : a0 < 65536) (hp : p < 4294967296) : Calls Try.prog 5 #[.string s, .int .u16 a0, .int .u32 p] w (Res (.bool true) w) := by
  unfold maxLen at hs
  go_enter Try.func5, Try.ntmps5
  go_upto_region 3 with (go_at_call 20; ((with_reducible refine (works_any _).mono ?_); rintro e' w0 ⟨rfl, k0⟩))
  go_cut [0] (fun a wx => ∃ u : ByteArray, a = .string u ∧ u.size ≤ 100 ∧ Hid (Keep w wx))
  case first =>
    obtain ⟨a2, ha2⟩ : ∃ x, s.extract 0 100 = x := ⟨_, rfl⟩
    have za : a2.size ≤ 100 := by rw [← ha2, ByteArray.size_extract]; omega
    by_cases h : (s.size : Int) ≤ 100
    · go_wp2
      go_meet
      exact ⟨_, rfl, by omega, Lib.hid k0⟩
    · go_wp2
      go_meet
      exact ⟨_, rfl, za, Lib.hid k0⟩
  case rest =>
    obtain ⟨u, rfl, hu, HK⟩ := hcut
    clear hs
    have hz : u.size ≤ 100000 := by omega
    obtain ⟨t, ht⟩ : ∃ t, sealG u 0#32 = t := ⟨_, rfl⟩
    obtain ⟨mv, hv⟩ : ∃ v, sealG u unf = v := ⟨_, rfl⟩
    obtain ⟨n, hn⟩ : ∃ n, u.size + 4 = n := ⟨_, rfl⟩
    have zt : t.size = n := by rw [← ht, sealG_size, hn]
    have zv : mv.size = n := by rw [← hv, sealG_size, hn]
    have hne : unf ≠ 0#32 := by decide
    have G1 : Hid (goodS t 0#32 = true) := Lib.hid (by rw [← ht]; exact seal_good u _)
    have G2 : Hid (goodS mv unf = true) := Lib.hid (by rw [← hv]; exact seal_good u _)
    have G3 : Hid (goodS mv 0#32 = false) := Lib.hid (by rw [← hv]; exact seal_other u hne)
    have G4 : Hid (goodS t unf = false) := Lib.hid (by rw [← ht]; exact seal_other u hne.symm)
    have HT := Lib.hid ht
    have HV := Lib.hid hv
    have ZT := Lib.hid zt
    have ZV := Lib.hid zv
    have ht4 : t.size ≤ 100000 := by omega
    have hm4 : mv.size ≤ 100000 := by omega
    have hn1 : n ≤ 104 := by omega
    have hn4 : 4 ≤ n := by omega
    obtain ⟨k, hk⟩ : ∃ k, a0 % (8 * n) = k := ⟨_, rfl⟩
    have hkn : k < 8 * n := by rw [← hk]; exact Nat.mod_lt _ (by omega)
    have hki : (a0 : Int).tmod (8 * (n : Int)) = (k : Int) := by rw [Int.tmod_eq_emod_of_nonneg (by omega), ← hk]; simp
    have hki2 : (a0 : Int) % (8 * (n : Int)) = (k : Int) := by rw [← hk]; simp
    have HKI := Lib.hid (show (a0 : Int).tmod (8 * (n : Int)) = (k : Int) ∧ (a0 : Int) % (8 * (n : Int)) = (k : Int) from ⟨hki, hki2⟩)
    have HX : Hid (∀ j : Nat, j < 2 → ∃ x : ByteArray, x.size = n ∧ ∀ wy : World, (Instr.index 34 (.agg #[.string t, .string mv]) (.int .i64 j)).run Try.prog wy = .ok (.string x) wy) := Lib.hid (by
      intro j hj
      have : j = 0 ∨ j = 1 := by omega
      rcases this with rfl | rfl
      · exact ⟨t, zt, fun wy => by kernel_rfl⟩
      · exact ⟨mv, zv, fun wy => by kernel_rfl⟩)
    clear hk ht hv hki hki2 hn zt zv hne
    go_wp2_with (first | (go_at_call 16; ((with_reducible refine (seal_is u t _ hz HT).mono ?_); rintro e' w1 ⟨rfl, k1⟩)) | (go_at_call 18; ((with_reducible refine (mark_is u mv _ hz HV).mono ?_); rintro e' w2 ⟨rfl, k2⟩)))
    have HK2 := Lib.hid ((HK.out.trans k1).trans k2)
    clear k1 k2
    go_loopw [8, 9, 10, 23] (fun _ _ _ i wr => ∃ j : Nat, j ≤ 2 ∧ i = .int .i64 j ∧ Hid (Keep w wr)) (fun _ _ _ i _ => 2 - (intOf i).toNat)
    case atStart => exact ⟨0, by omega, rfl, HK2⟩
    case round =>
      obtain ⟨j, hj, rfl, HKr⟩ := hrel
      by_cases hlt : j < 2
      · obtain ⟨x, hx, hidx⟩ := HX.out j hlt
        have hxx : x.size ≤ 100000 := by omega
        obtain ⟨f, hf⟩ : ∃ f, flipS x k p = f := ⟨_, rfl⟩
        have hff : f.size ≤ 100000 := by rw [← hf, flipS_size]; omega
        have HF := Lib.hid hf
        obtain ⟨b1, hb1⟩ : ∃ b, goodS x 0#32 = b := ⟨_, rfl⟩
        obtain ⟨b2, hb2⟩ : ∃ b, goodS x unf = b := ⟨_, rfl⟩
        obtain ⟨c1, hc1⟩ : ∃ b, goodS f 0#32 = b := ⟨_, rfl⟩
        obtain ⟨c2, hc2⟩ : ∃ b, goodS f unf = b := ⟨_, rfl⟩
        have HB1 := Lib.hid hb1
        have HB2 := Lib.hid hb2
        have HC1 := Lib.hid hc1
        have HC2 := Lib.hid hc2
        have kk : k ≤ 1000000 := by omega
        have hki := HKI.out.1
        have hki2 := HKI.out.2
        obtain ⟨e0, he0⟩ : ∃ e0, (f.toList == x.toList) = e0 := ⟨_, rfl⟩
        have hcase : e0 = true ∨ (e0 = false ∧ (b1 = true → c1 = false) ∧ (b2 = true → c2 = false)) := by
          cases e0 with
          | true => exact Or.inl rfl
          | false =>
            refine Or.inr ⟨rfl, ?_, ?_⟩
            · intro h
              have hne : flipS x k p ≠ x := by rw [hf]; intro e; rw [e] at he0; simp at he0
              have := flip_burst x k p 0#32 hne (by rw [hb1, h])
              rwa [hf, hc1] at this
            · intro h
              have hne : flipS x k p ≠ x := by rw [hf]; intro e; rw [e] at he0; simp at he0
              have := flip_burst x k p unf hne (by rw [hb2, h])
              rwa [hf, hc2] at this
        clear hb1 hb2 hc1 hc2 hf
        rcases hcase with rfl | ⟨rfl, h1, h2⟩
        · go_wp2_with (go_at_call 21; ((with_reducible refine (flip_is x f _ _ k p _ hxx rfl kk rfl hp HF).mono ?_); rintro e' w3 ⟨rfl, k3⟩))
          go_roundw
          case rel => exact ⟨j + 1, by omega, by go_num, Lib.hid (HKr.out.trans k3)⟩
          case measure => simp [intOf]; omega
        · cases b1 with
          | false =>
            cases b2 with
            | false =>
              go_wp2_with (first | (go_at_call 21; ((with_reducible refine (flip_is x f _ _ k p _ hxx rfl kk rfl hp HF).mono ?_); rintro e' w3 ⟨rfl, k3⟩)) | (go_at_call 22; ((with_reducible refine (good_is x false _ hxx HB1).mono ?_); rintro e' w4 ⟨rfl, k4⟩)) | (go_at_call 24; ((with_reducible refine (marked_is x false _ hxx HB2).mono ?_); rintro e' w5 ⟨rfl, k5⟩)))
              go_roundw
              case rel => exact ⟨j + 1, by omega, by go_num, Lib.hid (((HKr.out.trans k3).trans k4).trans k5)⟩
              case measure => simp [intOf]; omega
            | true =>
              obtain rfl := h2 rfl
              go_wp2_with (first | (go_at_call 21; ((with_reducible refine (flip_is x f _ _ k p _ hxx rfl kk rfl hp HF).mono ?_); rintro e' w3 ⟨rfl, k3⟩)) | (go_at_call 22; ((with_reducible refine (good_is x false _ hxx HB1).mono ?_); rintro e' w4 ⟨rfl, k4⟩)) | (go_at_call 24; ((with_reducible refine (marked_is x true _ hxx HB2).mono ?_); rintro e' w5 ⟨rfl, k5⟩)) | (go_at_call 24; ((with_reducible refine (marked_is f false _ hff HC2).mono ?_); rintro e' w6 ⟨rfl, k6⟩)))
              go_roundw
              case rel => exact ⟨j + 1, by omega, by go_num, Lib.hid ((((HKr.out.trans k3).trans k4).trans k5).trans k6)⟩
              case measure => simp [intOf]; omega
          | true =>
            obtain rfl := h1 rfl
            cases b2 with
            | false =>
              go_wp2_with (first | (go_at_call 21; ((with_reducible refine (flip_is x f _ _ k p _ hxx rfl kk rfl hp HF).mono ?_); rintro e' w3 ⟨rfl, k3⟩)) | (go_at_call 22; ((with_reducible refine (good_is x true _ hxx HB1).mono ?_); rintro e' w4 ⟨rfl, k4⟩)) | (go_at_call 22; ((with_reducible refine (good_is f false _ hff HC1).mono ?_); rintro e' w6 ⟨rfl, k6⟩)) | (go_at_call 24; ((with_reducible refine (marked_is x false _ hxx HB2).mono ?_); rintro e' w5 ⟨rfl, k5⟩)))
              go_roundw
              case rel => exact ⟨j + 1, by omega, by go_num, Lib.hid ((((HKr.out.trans k3).trans k4).trans k6).trans k5)⟩
              case measure => simp [intOf]; omega
            | true =>
              obtain rfl := h2 rfl
              go_wp2_with (first | (go_at_call 21; ((with_reducible refine (flip_is x f _ _ k p _ hxx rfl kk rfl hp HF).mono ?_); rintro e' w3 ⟨rfl, k3⟩)) | (go_at_call 22; ((with_reducible refine (good_is x true _ hxx HB1).mono ?_); rintro e' w4 ⟨rfl, k4⟩)) | (go_at_call 22; ((with_reducible refine (good_is f false _ hff HC1).mono ?_); rintro e' w6 ⟨rfl, k6⟩)) | (go_at_call 24; ((with_reducible refine (marked_is x true _ hxx HB2).mono ?_); rintro e' w5 ⟨rfl, k5⟩)) | (go_at_call 24; ((with_reducible refine (marked_is f false _ hff HC2).mono ?_); rintro e' w7 ⟨rfl, k7⟩)))
              go_roundw
              case rel => exact ⟨j + 1, by omega, by go_num, Lib.hid (((((HKr.out.trans k3).trans k4).trans k6).trans k5).trans k7)⟩
              case measure => simp [intOf]; omega
      · obtain rfl : j = 2 := by omega
        go_wp2_with (first | (go_at_call 16; ((with_reducible refine (seal_is u t _ hz HT).mono ?_); rintro e' w1 ⟨rfl, k1⟩)) | (go_at_call 18; ((with_reducible refine (mark_is u mv _ hz HV).mono ?_); rintro e' w2 ⟨rfl, k2⟩)) | (go_at_call 22; ((with_reducible refine (good_is t true _ ht4 G1).mono ?_); rintro e' w3 ⟨rfl, k3⟩)) | (go_at_call 22; ((with_reducible refine (good_is mv false _ hm4 G3).mono ?_); rintro e' w4 ⟨rfl, k4⟩)) | (go_at_call 24; ((with_reducible refine (marked_is mv true _ hm4 G2).mono ?_); rintro e' w5 ⟨rfl, k5⟩)) | (go_at_call 24; ((with_reducible refine (marked_is t false _ ht4 G4).mono ?_); rintro e' w6 ⟨rfl, k6⟩)))
        go_ret
        have k0 := HKr.out
        refine ⟨rfl, ?_⟩
        (repeat (first | exact Keep.refl _ | assumption | (refine Keep.trans ?_ (by assumption))))
end Go.Proofs.Ytmpnmodicigcmaa
