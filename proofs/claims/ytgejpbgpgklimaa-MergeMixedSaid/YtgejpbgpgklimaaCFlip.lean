/- What the reference's Flip returns. -/
import Derived.Test.YtgejpbgpgklimaaCFlipM
import Derived.BigRegion
import Derived.BigQuiet
import Derived.RegionTactic
import Derived.IntWalk
import Derived.Laws.IdiomStrings
namespace Go.Proofs.Ytgejpbgpgklimaa
open Go Go.RowKit

theorem pat_bit (p k : Nat) (hp : p < 4294967296) : bits .and .u32 ((p : Int) / 2 ^ k) 1 = if p.testBit k then 1 else 0 := by
  have e : (p : Int) / 2 ^ k = cv (BitVec.ofNat 32 (p / 2 ^ k)) := by
    unfold cv
    rw [BitVec.toNat_ofNat, Nat.mod_eq_of_lt (Nat.lt_of_le_of_lt (Nat.div_le_self _ _) hp)]
    simp
  rw [e, cv_lsb, BitVec.getLsbD_ofNat, Nat.testBit_div_two_pow]
  simp
theorem fb_val (v : UInt8) (R : Nat) (h : R < 8) : bits .xor .u8 (v.toNat : Int) (2 ^ R % 256) = ((fb v R).toNat : Int) := by
  have h2 : 2 ^ R < 256 := Nat.pow_lt_pow_right (a := 2) (n := 8) (by omega) h
  have e : ((2 : Int) ^ R % 256) = ((2 ^ R : Nat) : Int) := by
    have : ((2 ^ R : Nat) : Int) = (2 : Int) ^ R := by simp
    rw [← this]
    generalize (2 : Nat) ^ R = q at *
    omega
  rw [e, u8_xor_nat _ _ v.toNat_lt h2, fb_toNat v R h]
set_option maxRecDepth 100000 in
set_option maxHeartbeats 1000000 in
theorem flip_any (s : ByteArray) (a p : Nat) (w : World) (hs : s.size ≤ 100000) (ha : a ≤ 1000000) (hp : p < 4294967296) : Calls Try.prog 19 #[.string s, .int .i64 a, .int .u32 p] w (Res (.string (flipS s a p)) w) := by
  have hconv := fun w : World => Lib.run_convert_string_bytes (P := Try.prog) w 9 23 5 s Try.underlying9 Try.underlying23 Try.underlying5
  go_enter Try.func19, Try.ntmps19
  go_wp2
  have HK0 : Hid (Keep w (Lib.bytesWorld w 5 s)) := Lib.hid (bytes_keep w _ s)
  have HB0 : Hid (BytesAt (Lib.bytesWorld w 5 s) w.heap.size s.data.toList) := Lib.hid (bytes_new w _ s)
  generalize Lib.bytesWorld w 5 s = w1 at *
  generalize grownCap w s.size 0 5 = cap at *
  obtain ⟨B, hB⟩ : ∃ B, w.heap.size = B := ⟨_, rfl⟩
  rw [hB]
  rw [hB] at HB0
  have HBW := Lib.hid (show w.heap.size ≤ B by omega)
  clear hB
  obtain ⟨n, hn⟩ : ∃ n, s.size = n := ⟨_, rfl⟩
  have HN := Lib.hid hn
  rw [hn]
  have hn1 : n ≤ 100000 := by omega
  clear hn
  go_loopw [8] (fun i wr => ∃ k : Nat, k ≤ 32 ∧ i = .int .i64 k ∧ Hid (Keep w wr) ∧ Hid (BytesAt wr B (flipN s.data.toList a p k))) (fun i _ => 32 - (intOf i).toNat)
  case atStart => exact ⟨0, by omega, rfl, HK0, HB0⟩
  case round =>
    obtain ⟨k, hk, rfl, HK, HB⟩ := hrel
    by_cases hlt : k < 32
    · have hy := pat_bit p k hp
      by_cases h2 : a + k < 8 * n
      · cases ht : p.testBit k with
        | true =>
          rw [ht] at hy
          simp only [if_true] at hy
          have HF : Hid (flipN s.data.toList a p (k + 1) = flip1 (flipN s.data.toList a p k) (a + k)) := Lib.hid (by
            conv => lhs; unfold flipN
            rw [if_pos ⟨ht, by rw [show s.data.toList.length = n from HN.out]; exact h2⟩])
          clear ht
          have hd2 : decide ((a : Int) + (k : Int) < 8 * (n : Int)) = true := decide_eq_true (by omega)
          obtain ⟨x, hx⟩ : ∃ x : Int, (a : Int) + (k : Int) = x := ⟨_, rfl⟩
          obtain ⟨P, hP⟩ : ∃ P, (a + k) / 8 = P := ⟨_, rfl⟩
          obtain ⟨R, hR⟩ : ∃ R, (a + k) % 8 = R := ⟨_, rfl⟩
          have hPn : P < n := by omega
          have hR8 : R < 8 := by omega
          have hw : IntKind.i64.wrap x = x := IntWalk.i64_in _ (by omega)
          have hq1 : x.tdiv 8 = (P : Int) := by rw [Int.tdiv_eq_ediv_of_nonneg (by omega)]; omega
          have hr1 : x.tmod 8 = (R : Int) := by rw [Int.tmod_eq_emod_of_nonneg (by omega)]; omega
          have hq2 : x / 8 = (P : Int) := by omega
          have hr2 : x % 8 = (R : Int) := by omega
          have hlen : (flipN s.data.toList a p k).length = n := by rw [flipN_length]; exact HN.out
          have hcell := HB.out.cell P (by omega)
          have hfro := HB.out.free P (by omega)
          obtain ⟨v, hv⟩ : ∃ v, (flipN s.data.toList a p k).getD P 0 = v := ⟨_, rfl⟩
          rw [hv] at hcell
          have hvb := v.toNat_lt
          obtain ⟨z, hz⟩ : ∃ z : Int, (v.toNat : Int) = z := ⟨_, rfl⟩
          rw [hz] at hcell
          have hzb : 0 ≤ z ∧ z < 256 := by omega
          have HX := Lib.hid hx
          have HP := Lib.hid hP
          have HR := Lib.hid hR
          have HV := Lib.hid hv
          have HZ := Lib.hid hz
          have HL := Lib.hid hlen
          clear hP hR hv hz hvb hlen
          have hfb := fb_val v R hR8
          rw [HZ.out] at hfb
          obtain ⟨z2, hz2⟩ : ∃ z2 : Int, ((fb v R).toNat : Int) = z2 := ⟨_, rfl⟩
          have HZ2 := Lib.hid hz2
          rw [hz2] at hfb
          clear hz2
          go_wp2
          go_region
          go_wp2
          go_roundw
          case rel => exact ⟨k + 1, by omega, by go_num, Lib.hid (Keep.drew (HK.out.setCell HBW.out _)), Lib.hid (by
            rw [HF.out]
            unfold flip1
            rw [HP.out, HR.out, HV.out, ← HZ2.out]
            exact (HB.out.stored P (fb v R) (by rw [HL.out]; exact hPn)).drew)⟩
          case measure => simp [intOf]; omega
        | false =>
          rw [ht] at hy
          simp only [Bool.false_eq_true, if_false] at hy
          have HF : Hid (flipN s.data.toList a p (k + 1) = flipN s.data.toList a p k) := Lib.hid (by
            conv => lhs; unfold flipN
            rw [if_neg (by rw [ht]; simp)])
          clear ht
          go_wp2
          go_roundw
          case rel => exact ⟨k + 1, by omega, by go_num, HK, by rw [HF.out]; exact HB⟩
          case measure => simp [intOf]; omega
      · have HF : Hid (flipN s.data.toList a p (k + 1) = flipN s.data.toList a p k) := Lib.hid (by
          conv => lhs; unfold flipN
          rw [if_neg (by rw [show s.data.toList.length = n from HN.out]; omega)])
        have hd2 : decide ((a : Int) + (k : Int) < 8 * (n : Int)) = false := decide_eq_false (by omega)
        have hyy : ∃ y : Int, (if p.testBit k then (1 : Int) else 0) = y := ⟨_, rfl⟩
        obtain ⟨y, hyy⟩ := hyy
        rw [hyy] at hy
        clear hyy
        go_wp2
        all_goals
          go_roundw
          case rel => exact ⟨k + 1, by omega, by go_num, HK, by rw [HF.out]; exact HB⟩
          case measure => simp [intOf]; omega
    · obtain rfl : k = 32 := by omega
      have hl : (flipN s.data.toList a p 32).length = n := by rw [flipN_length]; exact HN.out
      have hback := run_convert_bytes_back (P := Try.prog) wr 23 9 5 ⟨B, 0, none⟩ cap (flipN s.data.toList a p 32) Try.underlying23 Try.underlying5 Try.underlying9 (fun j hj => by
        have hadd : (⟨B, 0, none⟩ : Addr).add j = ⟨B, j, none⟩ := by unfold Addr.add; split <;> simp_all
        rw [hadd, HB.out.cell j hj]
        simp [List.getD, hj])
      rw [hl] at hback
      clear hl
      have HT : Hid ((⟨(flipN s.data.toList a p 32).toArray⟩ : ByteArray) = flipS s a p) := Lib.hid rfl
      generalize (⟨(flipN s.data.toList a p 32).toArray⟩ : ByteArray) = t at *
      go_wp2
      go_ret
      exact ⟨by rw [← HT.out]; rfl, HK.out⟩
theorem flip_is (s t : ByteArray) (A P : Int) (a p : Nat) (w : World) (hs : s.size ≤ 100000) (hA : A = a) (ha : a ≤ 1000000) (hP : P = p) (hp : p < 4294967296) (H : Hid (flipS s a p = t)) : Calls Try.prog 19 #[.string s, .int .i64 A, .int .u32 P] w (Res (.string t) w) := by
  subst hA hP
  have := flip_any s a p w hs ha hp
  rwa [H.out] at this
end Go.Proofs.Ytgejpbgpgklimaa
