/- What a draft's Frame returns. -/
import Derived.Test.YtgejpbgpgklimaaMDrM
import Derived.Test.YtgejpbgpgklimaaMRefCut
namespace Go.Proofs.Ytgejpbgpgklimaa
open Go Go.RowKit

theorem grow_step (f : Nat) (s : ByteArray) (n : Nat) : grow (f + 1) s n = if s.size < n then grow f (s ++ s) n else s := rfl
set_option maxRecDepth 100000 in
set_option maxHeartbeats 4000000 in
theorem frame_is (x : ByteArray) (L g : Int) (a0 : Option Addr) (len cap : Nat) (t : ByteArray) (w : World) (hL : 0 ≤ L ∧ L < 65536) (hx : x.size ≤ maxLen) (H : Hid (frmD x L = t)) :
    Calls Try.prog 11 #[.agg #[.string x, .int .u16 L, .int .u8 g, .slice a0 len cap]] w (Res (.string t) w) := by
  have ht := H.out
  clear H
  unfold maxLen at hx
  obtain ⟨j, hj⟩ : ∃ j : Nat, min x.size 100 = j := ⟨_, rfl⟩
  have hmn : min (x.size : Int) 100 = (j : Int) := by omega
  have hjb : (j : Int) ≤ (x.size : Int) := by omega
  obtain ⟨y, hy⟩ : ∃ y, x.extract 0 j = y := ⟨_, rfl⟩
  have hys : y.size ≤ 100 := by rw [← hy, ByteArray.size_extract]; omega
  have hs1 : ∀ wx, (Instr.slice 9 (.string x) none (some (.int .i64 j)) none).run Try.prog wx = .ok (.string y) wx := fun wx => by rw [← hy]; exact slice_to x j (by omega) wx
  have hs2 : (x.size : Int) ≤ 100 → ∀ wx, (Instr.slice 9 (.string x) none (some (.int .i64 (x.size : Int))) none).run Try.prog wx = .ok (.string y) wx := fun h => by rw [show (x.size : Int) = (j : Int) by omega]; exact hs1
  have hs3 : ¬ (x.size : Int) ≤ 100 → ∀ wx, (Instr.slice 9 (.string x) none (some (.int .i64 100)) none).run Try.prog wx = .ok (.string y) wx := fun h => by rw [show (100 : Int) = (j : Int) by omega]; exact hs1
  obtain ⟨s0, hs0⟩ : ∃ s0, y ++ (⟨#[45]⟩ : ByteArray) = s0 := ⟨_, rfl⟩
  have hseed : seedS x = s0 := by unfold seedS dash; rw [hj, hy, hs0]
  have hss := seedS_size x
  have hgr := seed_grow x L
  have hnb := lenD_bd L
  unfold frmD bodyD at ht
  obtain ⟨n, hn⟩ : ∃ n, lenD L = n := ⟨_, rfl⟩
  rw [hseed, hn] at ht
  rw [hseed] at hss
  rw [hseed, hn] at hgr
  rw [hn] at hnb
  obtain ⟨m, hm⟩ : ∃ m : Int, L % 1459 = m := ⟨_, rfl⟩
  have hnm : 60 + m = (n : Int) := by rw [← hn]; unfold lenD; omega
  have hm1 : L.tmod 1459 = m := by rw [Int.tmod_eq_emod_of_nonneg hL.1, hm]
  have hmb : 0 ≤ m ∧ m ≤ 1458 := by omega
  have hm2 : IntKind.u16.wrap m = m := by show m % 65536 = m; omega
  have hm3 : IntKind.i64.wrap m = m := IntWalk.i64_in _ (by omega)
  have hm4 : wrap64 m = m := by clear hm3; unfold wrap64; omega
  have hm5 : wrap64 (60 + m) = (n : Int) := by clear hm3; unfold wrap64; omega
  have hbb : ¬ 9223372036854775807 < y.size + 1 := by omega
  obtain ⟨R, hR⟩ : ∃ R, grow 11 s0 n = R := ⟨_, rfl⟩
  rw [hR] at ht
  clear hy hseed hn hm hj hs1 hmn
  by_cases h100 : (x.size : Int) ≤ 100
  · have hs := hs2 h100
    clear hs2 hs3
    go_enter Try.func11, Try.ntmps11
    go_wp2
    go_loopw [3] (fun s3 wr => ∃ (f : Nat) (s : ByteArray), s3 = .string s ∧ Hid (grow f s n = R ∧ 1 ≤ s.size ∧ n ≤ s.size * 2 ^ f ∧ s.size ≤ 4000) ∧ Hid (Keep w wr)) (fun v _ => n - (match v with | .string s => s.size | _ => 0))
    case atStart => exact ⟨11, s0, rfl, Lib.hid ⟨hR, hss.1, hgr, by omega⟩, Lib.hid ((Keep.refl w).alloc _)⟩
    case round =>
      obtain ⟨f, s, rfl, HG, HK⟩ := hrel
      obtain ⟨q1, q2, q3, q4⟩ := HG.out
      by_cases hlt : s.size < n
      · obtain ⟨f', rfl⟩ : ∃ f', f = f' + 1 := by
          cases f with
          | zero => rw [Nat.pow_zero, Nat.mul_one] at q3; omega
          | succ f' => exact ⟨f', rfl⟩
        have hg2 : grow f' (s ++ s) n = R := by rw [← q1, grow_step, if_pos hlt]
        have hlt2 : (s.size : Int) < (n : Int) := by omega
        have hb2 : ¬ 9223372036854775807 < s.size + s.size := by omega
        have h2 : n ≤ (s.size + s.size) * 2 ^ f' := by
          rw [Nat.pow_succ] at q3
          have : (s.size + s.size) * 2 ^ f' = s.size * (2 ^ f' * 2) := by rw [← Nat.two_mul, Nat.mul_comm 2 s.size, Nat.mul_assoc, Nat.mul_comm 2]
          omega
        have HH : Hid (grow f' (s ++ s) n = R ∧ 1 ≤ (s ++ s).size ∧ n ≤ (s ++ s).size * 2 ^ f' ∧ (s ++ s).size ≤ 4000) := Lib.hid (by rw [ByteArray.size_append]; exact ⟨hg2, by omega, h2, by omega⟩)
        obtain ⟨ss, hss2⟩ : ∃ ss, s ++ s = ss := ⟨_, rfl⟩
        have hsz2 : ss.size = s.size + s.size := by rw [← hss2, ByteArray.size_append]
        rw [hss2] at HH
        clear hg2 h2 q1 q3
        go_wp2
        go_roundw
        case rel => exact ⟨f', ss, rfl, HH, HK⟩
        case measure => show n - ss.size < n - s.size; omega
      · have hlt2 : ¬ (s.size : Int) < (n : Int) := by omega
        have hsR : s = R := by rw [← q1]; exact (grow_done (by omega) f).symm
        subst hsR
        obtain ⟨b, hb⟩ : ∃ b, s.extract 0 n = b := ⟨_, rfl⟩
        have hbs : b.size ≤ 100000 := by rw [← hb, ByteArray.size_extract]; omega
        have hsl : ∀ wx, (Instr.slice 9 (.string s) none (some (.int .i64 n)) none).run Try.prog wx = .ok (.string b) wx := fun wx => by rw [← hb]; exact slice_to s n (by omega) wx
        have HT : Hid (sealG b 0#32 = t) := Lib.hid (by rw [← hb]; exact ht)
        clear q1 q3 hb ht
        go_wp2_with (go_at_call 12; ((with_reducible refine (refSeal_is b t _ hbs HT).mono ?_); rintro e' w2 ⟨rfl, k2⟩))
        go_ret
        exact ⟨rfl, HK.out.trans k2⟩
  · have hs := hs3 h100
    clear hs2 hs3
    go_enter Try.func11, Try.ntmps11
    go_wp2
    go_loopw [3] (fun s3 wr => ∃ (f : Nat) (s : ByteArray), s3 = .string s ∧ Hid (grow f s n = R ∧ 1 ≤ s.size ∧ n ≤ s.size * 2 ^ f ∧ s.size ≤ 4000) ∧ Hid (Keep w wr)) (fun v _ => n - (match v with | .string s => s.size | _ => 0))
    case atStart => exact ⟨11, s0, rfl, Lib.hid ⟨hR, hss.1, hgr, by omega⟩, Lib.hid ((Keep.refl w).alloc _)⟩
    case round =>
      obtain ⟨f, s, rfl, HG, HK⟩ := hrel
      obtain ⟨q1, q2, q3, q4⟩ := HG.out
      by_cases hlt : s.size < n
      · obtain ⟨f', rfl⟩ : ∃ f', f = f' + 1 := by
          cases f with
          | zero => rw [Nat.pow_zero, Nat.mul_one] at q3; omega
          | succ f' => exact ⟨f', rfl⟩
        have hg2 : grow f' (s ++ s) n = R := by rw [← q1, grow_step, if_pos hlt]
        have hlt2 : (s.size : Int) < (n : Int) := by omega
        have hb2 : ¬ 9223372036854775807 < s.size + s.size := by omega
        have h2 : n ≤ (s.size + s.size) * 2 ^ f' := by
          rw [Nat.pow_succ] at q3
          have : (s.size + s.size) * 2 ^ f' = s.size * (2 ^ f' * 2) := by rw [← Nat.two_mul, Nat.mul_comm 2 s.size, Nat.mul_assoc, Nat.mul_comm 2]
          omega
        have HH : Hid (grow f' (s ++ s) n = R ∧ 1 ≤ (s ++ s).size ∧ n ≤ (s ++ s).size * 2 ^ f' ∧ (s ++ s).size ≤ 4000) := Lib.hid (by rw [ByteArray.size_append]; exact ⟨hg2, by omega, h2, by omega⟩)
        obtain ⟨ss, hss2⟩ : ∃ ss, s ++ s = ss := ⟨_, rfl⟩
        have hsz2 : ss.size = s.size + s.size := by rw [← hss2, ByteArray.size_append]
        rw [hss2] at HH
        clear hg2 h2 q1 q3
        go_wp2
        go_roundw
        case rel => exact ⟨f', ss, rfl, HH, HK⟩
        case measure => show n - ss.size < n - s.size; omega
      · have hlt2 : ¬ (s.size : Int) < (n : Int) := by omega
        have hsR : s = R := by rw [← q1]; exact (grow_done (by omega) f).symm
        subst hsR
        obtain ⟨b, hb⟩ : ∃ b, s.extract 0 n = b := ⟨_, rfl⟩
        have hbs : b.size ≤ 100000 := by rw [← hb, ByteArray.size_extract]; omega
        have hsl : ∀ wx, (Instr.slice 9 (.string s) none (some (.int .i64 n)) none).run Try.prog wx = .ok (.string b) wx := fun wx => by rw [← hb]; exact slice_to s n (by omega) wx
        have HT : Hid (sealG b 0#32 = t) := Lib.hid (by rw [← hb]; exact ht)
        clear q1 q3 hb ht
        go_wp2_with (go_at_call 12; ((with_reducible refine (refSeal_is b t _ hbs HT).mono ?_); rintro e' w2 ⟨rfl, k2⟩))
        go_ret
        exact ⟨rfl, HK.out.trans k2⟩
end Go.Proofs.Ytgejpbgpgklimaa
