/- CrcPairs answers true for every input. -/
import Derived.Test.YtmpnmodicigcmaaCLawBursts
import Derived.BigRegion
import Derived.BigQuiet
import Derived.RegionTactic
import Derived.IntWalk
namespace Go.Proofs.Ytmpnmodicigcmaa
open Go Go.RowKit

theorem never_long : never 1632 (step 1#32) = true := by kernel_rfl
theorem flip_one (s : ByteArray) (a : Nat) (h : a < 8 * s.size) (i : Nat) : bitAt (flipS s a 1).data.toList i = (bitAt s.data.toList i ^^ decide (i = a)) := by
  rw [flipS_list, flipN_bit]
  congr 1
  apply decide_eq_decide.2
  have hl : s.data.toList.length = s.size := rfl
  rw [hl, Nat.testBit_one_eq_true_iff_self_eq_zero]
  omega
theorem one_bad (s : ByteArray) (a : Nat) (h : a < 8 * s.size) (g : BitVec 32) (hg : goodS s g = true) : goodS (flipS s a 1) g = false :=
  one_not_good (a := a) g (flipN_length _ _ _ _) h (flip_one s a h) hg
theorem two_same (s : ByteArray) (a : Nat) (h : a < 8 * s.size) : flipS (flipS s a 1) a 1 = s := by
  apply data_ext
  refine bits_ext (by rw [flipS_list, flipN_length]; exact flipN_length _ _ _ _) fun i _ => ?_
  rw [flip_one _ a (by rw [flipS_size]; exact h), flip_one s a h]
  cases bitAt s.data.toList i <;> cases decide (i = a) <;> rfl
theorem two_bad (s : ByteArray) (a b : Nat) (ha : a < 8 * s.size) (hb : b < 8 * s.size) (hab : a ≠ b) (hs : s.size ≤ 204) (g : BitVec 32) (hg : goodS s g = true) : goodS (flipS (flipS s a 1) b 1) g = false := by
  have hn := never_out 1632 _ never_long
  have hl : s.data.toList.length = s.size := rfl
  have hlen : (flipS (flipS s a 1) b 1).data.toList.length = s.data.toList.length := by rw [flipS_list, flipN_length]; exact flipN_length _ _ _ _
  have hbit : ∀ i, bitAt (flipS (flipS s a 1) b 1).data.toList i = ((bitAt s.data.toList i ^^ decide (i = a)) ^^ decide (i = b)) := fun i => by
    rw [flip_one _ b (by rw [flipS_size]; exact hb), flip_one s a ha]
  rcases Nat.lt_or_gt_of_ne hab with h | h
  · exact two_not_good g hlen h (by rw [hl]; exact hb) hn (by rw [hl]; omega) hbit hg
  · refine two_not_good g hlen h (by rw [hl]; exact ha) hn (by rw [hl]; omega) (fun i => ?_) hg
    rw [hbit]
    cases bitAt s.data.toList i <;> cases decide (i = a) <;> cases decide (i = b) <;> rfl
set_option maxRecDepth 100000 in
set_option maxHeartbeats 2000000 in
theorem lawPairs_any (s : ByteArray) (x0 x1 : Nat) (w : World) (hs : s.size ≤ maxLen) (h0 : x0 < 65536) (h1 : x1 < 65536) : Calls Try.prog 6 #[.string s, .agg #[.int .u16 x0, .int .u16 x1]] w (Res (.bool true) w) := by
  unfold maxLen at hs
  obtain ⟨W, hW⟩ : ∃ W, w.alloc (.cells #[.int .u16 (x0 : Int), .int .u16 (x1 : Int)] 35) = W := ⟨_, rfl⟩
  have c0 : Hid (W.cell? ⟨w.heap.size, 0, none⟩ = some (.int .u16 (x0 : Int))) := Lib.hid (by rw [← hW]; simp [go_sem])
  have c1 : Hid (W.cell? ⟨w.heap.size, 1, none⟩ = some (.int .u16 (x1 : Int))) := Lib.hid (by rw [← hW]; simp [go_sem])
  have KW : Hid (Keep w W) := Lib.hid (by rw [← hW]; exact (Keep.refl w).alloc _)
  go_enter Try.func6, Try.ntmps6
  go_upto_region 3 with (go_at_call 20; ((with_reducible refine (works_any _).mono ?_); rintro e' w0 ⟨rfl, k0⟩))
  go_cut [5] (fun v wx => ∃ t : ByteArray, v = .string t ∧ 4 ≤ t.size ∧ t.size ≤ 204 ∧ Hid (goodS t 0#32 = true) ∧ Hid (Keep W wx))
  case first =>
    obtain ⟨a2, ha2⟩ : ∃ x, s.extract 0 200 = x := ⟨_, rfl⟩
    have za : a2.size ≤ 200 := by rw [← ha2, ByteArray.size_extract]; omega
    by_cases h : (s.size : Int) ≤ 200
    · obtain ⟨t, ht⟩ : ∃ t, sealG s 0#32 = t := ⟨_, rfl⟩
      have HT := Lib.hid ht
      have hz : s.size ≤ 100000 := by omega
      have hG : goodS t 0#32 = true := by rw [← ht]; exact seal_good s _
      have hl : t.size = s.size + 4 := by rw [← ht, sealG_size]
      have HL := Lib.hid hl
      have HG := Lib.hid hG
      clear ht hl hG
      go_wp2_with (go_at_call 16; ((with_reducible refine (seal_is s t _ hz HT).mono ?_); rintro e' w1 ⟨rfl, k1⟩))
      go_meet
      exact ⟨t, rfl, by rw [HL.out]; omega, by rw [HL.out]; omega, HG, Lib.hid (k0.trans k1)⟩
    · obtain ⟨t, ht⟩ : ∃ t, sealG a2 0#32 = t := ⟨_, rfl⟩
      have HT := Lib.hid ht
      have hz : a2.size ≤ 100000 := by omega
      have hG : goodS t 0#32 = true := by rw [← ht]; exact seal_good a2 _
      have hl : t.size = a2.size + 4 := by rw [← ht, sealG_size]
      have HL := Lib.hid hl
      have HG := Lib.hid hG
      clear ht hl hG
      go_wp2_with (go_at_call 16; ((with_reducible refine (seal_is a2 t _ hz HT).mono ?_); rintro e' w1 ⟨rfl, k1⟩))
      go_meet
      exact ⟨t, rfl, by rw [HL.out]; omega, by rw [HL.out]; omega, HG, Lib.hid (k0.trans k1)⟩
  case rest =>
    obtain ⟨t, rfl, ht4, ht204, HG, HK⟩ := hcut
    obtain ⟨n, hn⟩ : ∃ n, t.size = n := ⟨_, rfl⟩
    rw [hn] at ht4 ht204
    obtain ⟨a, hA⟩ : ∃ a, x0 % (8 * n) = a := ⟨_, rfl⟩
    obtain ⟨b, hB⟩ : ∃ b, x1 % (8 * n) = b := ⟨_, rfl⟩
    have han : a < 8 * n := by rw [← hA]; exact Nat.mod_lt _ (by omega)
    have hbn : b < 8 * n := by rw [← hB]; exact Nat.mod_lt _ (by omega)
    obtain ⟨M, hM⟩ : ∃ M : Int, 8 * (n : Int) = M := ⟨_, rfl⟩
    have hM0 : 0 < M := by omega
    have hM1 : M ≤ 10000 := by omega
    have ha1 : (x0 : Int).tmod M = (a : Int) := by rw [Int.tmod_eq_emod_of_nonneg (by omega), ← hA, ← hM]; simp
    have hb1 : (x1 : Int).tmod M = (b : Int) := by rw [Int.tmod_eq_emod_of_nonneg (by omega), ← hB, ← hM]; simp
    have ha2 : (x0 : Int) % M = (a : Int) := by rw [← hA, ← hM]; simp
    have hb2 : (x1 : Int) % M = (b : Int) := by rw [← hB, ← hM]; simp
    have hw : IntKind.i64.wrap M = M := IntWalk.i64_in _ (by omega)
    have hMb : (M == 0) = false := by simp; omega
    have hMn : ¬ M = 0 := by omega
    have i0 : IntKind.i64.wrap (x0 : Int) = (x0 : Int) := IntWalk.i64_in _ (by omega)
    have i1 : IntKind.i64.wrap (x1 : Int) = (x1 : Int) := IntWalk.i64_in _ (by omega)
    have d0 := HK.out.some c0.out
    have d1 := HK.out.some c1.out
    have HN := Lib.hid hn
    clear hA hB
    go_upto_region 4 with fail
    go_cut [6, 7] (fun u v wx => u = .int .i64 a ∧ v = .int .i64 b ∧ Hid (Keep W wx))
    case first =>
      go_region
      all_goals go_wp2
      all_goals go_meet
      all_goals exact ⟨rfl, rfl, Lib.hid (Keep.drew HK.out)⟩
    case rest =>
      obtain ⟨rfl, rfl, HK⟩ := hcut
      clear d0 d1 i0 i1 ha1 hb1 ha2 hb2 hw hMb hMn hM hM0 hM1
      have tt : t.size ≤ 100000 := by rw [HN.out]; omega
      have aa : a ≤ 1000000 := by omega
      have bb : b ≤ 1000000 := by omega
      have p1 : (1 : Nat) < 4294967296 := by decide
      have Q1 : Hid ((1 : Int) = ((1 : Nat) : Int)) := Lib.hid rfl
      have hat : a < 8 * t.size := by rw [HN.out]; exact han
      have hbt : b < 8 * t.size := by rw [HN.out]; exact hbn
      obtain ⟨f1, hf1⟩ : ∃ x, flipS t a 1 = x := ⟨_, rfl⟩
      obtain ⟨f2, hf2⟩ : ∃ x, flipS f1 b 1 = x := ⟨_, rfl⟩
      have ff1 : f1.size ≤ 100000 := by rw [← hf1, flipS_size]; exact tt
      have ff2 : f2.size ≤ 100000 := by rw [← hf2, flipS_size]; exact ff1
      have HG1 : Hid (goodS f1 0#32 = false) := Lib.hid (by rw [← hf1]; exact one_bad t a hat _ HG.out)
      by_cases hab : a = b
      · subst hab
        have HG2 : Hid (goodS f2 0#32 = true) := Lib.hid (by rw [← hf2, ← hf1, two_same t a hat]; exact HG.out)
        have HF1 := Lib.hid hf1
        have HF2 := Lib.hid hf2
        clear hf1 hf2 hn
        go_wp2_with (first | (go_at_call 21; ((with_reducible refine (flip_is t f1 _ _ a 1 _ tt rfl aa Q1.out p1 HF1).mono ?_); rintro e' w1 ⟨rfl, k1⟩)) | (go_at_call 21; ((with_reducible refine (flip_is f1 f2 _ _ a 1 _ ff1 rfl aa Q1.out p1 HF2).mono ?_); rintro e' w2 ⟨rfl, k2⟩)) | (go_at_call 22; ((with_reducible refine (good_is f2 true _ ff2 HG2).mono ?_); rintro e' w3 ⟨rfl, k3⟩)) | (go_at_call 22; ((with_reducible refine (good_is f1 false _ ff1 HG1).mono ?_); rintro e' w4 ⟨rfl, k4⟩)))
        go_ret
        have k0 := KW.out.trans HK.out
        refine ⟨rfl, ?_⟩
        (repeat (first | exact Keep.refl _ | assumption | (refine Keep.trans ?_ (by assumption))))
      · have HG2 : Hid (goodS f2 0#32 = false) := Lib.hid (by rw [← hf2, ← hf1]; exact two_bad t a b hat hbt hab (by rw [HN.out]; omega) _ HG.out)
        have HF1 := Lib.hid hf1
        have HF2 := Lib.hid hf2
        have e1 : ((a : Int) == (b : Int)) = false := by simp; omega
        have e2 : ¬ (a : Int) = (b : Int) := by omega
        clear hf1 hf2 hn
        go_wp2_with (first | (go_at_call 21; ((with_reducible refine (flip_is t f1 _ _ a 1 _ tt rfl aa Q1.out p1 HF1).mono ?_); rintro e' w1 ⟨rfl, k1⟩)) | (go_at_call 21; ((with_reducible refine (flip_is f1 f2 _ _ b 1 _ ff1 rfl bb Q1.out p1 HF2).mono ?_); rintro e' w2 ⟨rfl, k2⟩)) | (go_at_call 22; ((with_reducible refine (good_is f2 false _ ff2 HG2).mono ?_); rintro e' w3 ⟨rfl, k3⟩)) | (go_at_call 22; ((with_reducible refine (good_is f1 false _ ff1 HG1).mono ?_); rintro e' w4 ⟨rfl, k4⟩)))
        go_ret
        have k0 := KW.out.trans HK.out
        refine ⟨rfl, ?_⟩
        (repeat (first | exact Keep.refl _ | assumption | (refine Keep.trans ?_ (by assumption))))
end Go.Proofs.Ytmpnmodicigcmaa
