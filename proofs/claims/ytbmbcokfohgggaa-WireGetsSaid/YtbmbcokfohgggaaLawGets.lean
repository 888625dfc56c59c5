/- WireGets answers true for every input. -/
import Derived.Test.YtbmbcokfohgggaaWWorks
import Derived.Deep.Cut
import Derived.Deep.DeepCutAuto
namespace Go.Proofs.Ytbmbcokfohgggaa
open Go Go.RowKit

theorem i64_small {x : Int} (h0 : 0 ≤ x) (h1 : x < 1000) : I64 x := by unfold I64; omega
set_option maxRecDepth 100000 in
set_option maxHeartbeats 2000000 in
theorem lawGets_any (s : ByteArray) (a k : Int) (w : World) (hs : s.size ≤ maxLen) (ha : I64 a) (hk : I64 k) : Calls Try.prog 4 #[.string s, .int .i64 a, .int .i64 k] w (Res (.bool true) w) := by
  obtain ⟨x, hx, hx0, hx1⟩ : ∃ x, (IntKind.u64.wrap a).tmod 22 = x ∧ 0 ≤ x ∧ x < 22 := by
    have h := wrap_u64_nonneg a
    refine ⟨_, rfl, ?_, ?_⟩ <;> rw [Int.tmod_eq_emod_of_nonneg h] <;> omega
  obtain ⟨y, hy, hy0, hy1⟩ : ∃ y, (IntKind.u64.wrap k).tmod 10 = y ∧ 0 ≤ y ∧ y < 10 := by
    have h := wrap_u64_nonneg k
    refine ⟨_, rfl, ?_, ?_⟩ <;> rw [Int.tmod_eq_emod_of_nonneg h] <;> omega
  have HI : Hid (∀ j : Nat, j < 3 → ∃ p q : Int, Hid (I64 p) ∧ Hid (I64 q) ∧ ∀ w', (Instr.index 31 (.agg #[.int .i64 a, .int .i64 k, .int .i64 x, .int .i64 y, .int .i64 x, .int .i64 k]) (.int .i64 (j : Int))).run Try.prog w' = .ok (.agg #[.int .i64 p, .int .i64 q]) w') := Lib.hid fun j hj => by
    obtain rfl | rfl | rfl : j = 0 ∨ j = 1 ∨ j = 2 := by omega
    · exact ⟨a, k, Lib.hid ha, Lib.hid hk, fun _ => by kernel_rfl⟩
    · exact ⟨x, y, Lib.hid (i64_small hx0 (by omega)), Lib.hid (i64_small hy0 (by omega)), fun _ => by kernel_rfl⟩
    · exact ⟨x, k, Lib.hid (i64_small hx0 (by omega)), Lib.hid hk, fun _ => by kernel_rfl⟩
  have hsm := hs
  unfold maxLen at hsm
  clear ha hk
  by_cases h20 : (s.size : Int) ≤ 20
  · have HTS : Hid (s.size ≤ maxLen) := Lib.hid hs
    clear hs
    go_enter Try.func4, Try.ntmps4
    go_wp2_with fail
    go_loopw [45] (fun i wr => ∃ j : Nat, j ≤ 3 ∧ i = .int .i64 (j : Int) ∧ Hid (Keep w wr)) (fun i _ => 3 - (intOf i).toNat)
    case atStart => exact ⟨0, by omega, rfl, Lib.hid (Keep.refl _)⟩
    case round =>
      obtain ⟨j, hj, rfl, G0⟩ := hrel
      by_cases hlt : j < 3
      · obtain ⟨p, q, HP, HQ, hix⟩ := HI.out j hlt
        go_upto_region 5 with fail
        have c0 : (wr.alloc (.cells #[.int .i64 p, .int .i64 q] 30)).cell? ⟨wr.heap.size, 0, none⟩ = some (.int .i64 p) := by simp [go_sem]
        have c1 : (wr.alloc (.cells #[.int .i64 p, .int .i64 q] 30)).cell? ⟨wr.heap.size, 1, none⟩ = some (.int .i64 q) := by simp [go_sem]
        have GW : Hid (Keep w (wr.alloc (.cells #[.int .i64 p, .int .i64 q] 30))) := Lib.hid (G0.out.alloc _)
        generalize wr.alloc (.cells #[.int .i64 p, .int .i64 q] 30) = W0 at *
        generalize wr.heap.size = B at *
        obtain ⟨v1, hv1⟩ : ∃ v, getV s p q = v := ⟨_, rfl⟩
        obtain ⟨e1, he1⟩ : ∃ v, getE s p q = v := ⟨_, rfl⟩
        obtain ⟨v2, hv2⟩ : ∃ v, sgetV s p q = v := ⟨_, rfl⟩
        obtain ⟨e2, he2⟩ : ∃ v, sgetE s p q = v := ⟨_, rfl⟩
        obtain ⟨u, hu⟩ : ∃ v, fieldS s p q = v := ⟨_, rfl⟩
        obtain ⟨e3, he3⟩ : ∃ v, fieldE s p q = v := ⟨_, rfl⟩
        have HV1 := Lib.hid hv1
        have HE1 := Lib.hid he1
        have HV2 := Lib.hid hv2
        have HE2 := Lib.hid he2
        have HU := Lib.hid hu
        have HE3 := Lib.hid he3
        clear hv1 he1 hv2 he2 hu he3 hix
        have hbe := beq_list u
        go_wp2_with (first | (go_at_call 13; ((with_reducible refine (get_is s p q v1 e1 _ HTS.out HP.out HQ.out HV1 HE1).mono ?_); rintro e' w1 ⟨rfl, k1⟩; have c0 := k1.some c0; have c1 := k1.some c1)) | (go_at_call 14; ((with_reducible refine (refGet_is s p q v1 e1 _ HTS.out HV1 HE1).mono ?_); rintro e' w2 ⟨rfl, k2⟩; have c0 := k2.some c0; have c1 := k2.some c1)) | (go_at_call 15; ((with_reducible refine (getSigned_is s p q v2 e2 _ HTS.out HP.out HQ.out HV2 HE2).mono ?_); rintro e' w3 ⟨rfl, k3⟩; have c0 := k3.some c0; have c1 := k3.some c1)) | (go_at_call 16; ((with_reducible refine (refGetSigned_is s p q v2 e2 _ HTS.out HV2 HE2).mono ?_); rintro e' w4 ⟨rfl, k4⟩; have c0 := k4.some c0; have c1 := k4.some c1)) | (go_at_call 17; ((with_reducible refine (field_is s p q u e3 _ HTS.out HP.out HQ.out HU HE3).mono ?_); rintro e' w5 ⟨rfl, k5⟩; have c0 := k5.some c0; have c1 := k5.some c1)) | (go_at_call 18; ((with_reducible refine (refField_is s p q u e3 _ HTS.out HU HE3).mono ?_); rintro e' w6 ⟨rfl, k6⟩; have c0 := k6.some c0; have c1 := k6.some c1)))
        go_roundw
        case rel => exact ⟨j + 1, by omega, by go_num, Lib.hid ((((((GW.out.trans k1).trans k2).trans k3).trans k4).trans k5).trans k6)⟩
        case measure => simp [intOf]; omega
      · obtain rfl : j = 3 := by omega
        go_wp2_with (go_at_call 12; ((with_reducible refine (works_any _).mono ?_); rintro e' w9 ⟨rfl, k9⟩))
        go_ret
        exact ⟨rfl, G0.out.trans k9⟩
  · obtain ⟨t, ht⟩ : ∃ t, s.extract 0 20 = t := ⟨_, rfl⟩
    have hts : t.size ≤ 20 := by rw [← ht, ByteArray.size_extract]; omega
    have HTS : Hid (t.size ≤ maxLen) := Lib.hid (by unfold maxLen; omega)
    clear hs
    go_enter Try.func4, Try.ntmps4
    go_wp2_with fail
    go_loopw [45] (fun i wr => ∃ j : Nat, j ≤ 3 ∧ i = .int .i64 (j : Int) ∧ Hid (Keep w wr)) (fun i _ => 3 - (intOf i).toNat)
    case atStart => exact ⟨0, by omega, rfl, Lib.hid (Keep.refl _)⟩
    case round =>
      obtain ⟨j, hj, rfl, G0⟩ := hrel
      by_cases hlt : j < 3
      · obtain ⟨p, q, HP, HQ, hix⟩ := HI.out j hlt
        go_upto_region 5 with fail
        have c0 : (wr.alloc (.cells #[.int .i64 p, .int .i64 q] 30)).cell? ⟨wr.heap.size, 0, none⟩ = some (.int .i64 p) := by simp [go_sem]
        have c1 : (wr.alloc (.cells #[.int .i64 p, .int .i64 q] 30)).cell? ⟨wr.heap.size, 1, none⟩ = some (.int .i64 q) := by simp [go_sem]
        have GW : Hid (Keep w (wr.alloc (.cells #[.int .i64 p, .int .i64 q] 30))) := Lib.hid (G0.out.alloc _)
        generalize wr.alloc (.cells #[.int .i64 p, .int .i64 q] 30) = W0 at *
        generalize wr.heap.size = B at *
        obtain ⟨v1, hv1⟩ : ∃ v, getV t p q = v := ⟨_, rfl⟩
        obtain ⟨e1, he1⟩ : ∃ v, getE t p q = v := ⟨_, rfl⟩
        obtain ⟨v2, hv2⟩ : ∃ v, sgetV t p q = v := ⟨_, rfl⟩
        obtain ⟨e2, he2⟩ : ∃ v, sgetE t p q = v := ⟨_, rfl⟩
        obtain ⟨u, hu⟩ : ∃ v, fieldS t p q = v := ⟨_, rfl⟩
        obtain ⟨e3, he3⟩ : ∃ v, fieldE t p q = v := ⟨_, rfl⟩
        have HV1 := Lib.hid hv1
        have HE1 := Lib.hid he1
        have HV2 := Lib.hid hv2
        have HE2 := Lib.hid he2
        have HU := Lib.hid hu
        have HE3 := Lib.hid he3
        clear hv1 he1 hv2 he2 hu he3 hix
        have hbe := beq_list u
        go_wp2_with (first | (go_at_call 13; ((with_reducible refine (get_is t p q v1 e1 _ HTS.out HP.out HQ.out HV1 HE1).mono ?_); rintro e' w1 ⟨rfl, k1⟩; have c0 := k1.some c0; have c1 := k1.some c1)) | (go_at_call 14; ((with_reducible refine (refGet_is t p q v1 e1 _ HTS.out HV1 HE1).mono ?_); rintro e' w2 ⟨rfl, k2⟩; have c0 := k2.some c0; have c1 := k2.some c1)) | (go_at_call 15; ((with_reducible refine (getSigned_is t p q v2 e2 _ HTS.out HP.out HQ.out HV2 HE2).mono ?_); rintro e' w3 ⟨rfl, k3⟩; have c0 := k3.some c0; have c1 := k3.some c1)) | (go_at_call 16; ((with_reducible refine (refGetSigned_is t p q v2 e2 _ HTS.out HV2 HE2).mono ?_); rintro e' w4 ⟨rfl, k4⟩; have c0 := k4.some c0; have c1 := k4.some c1)) | (go_at_call 17; ((with_reducible refine (field_is t p q u e3 _ HTS.out HP.out HQ.out HU HE3).mono ?_); rintro e' w5 ⟨rfl, k5⟩; have c0 := k5.some c0; have c1 := k5.some c1)) | (go_at_call 18; ((with_reducible refine (refField_is t p q u e3 _ HTS.out HU HE3).mono ?_); rintro e' w6 ⟨rfl, k6⟩; have c0 := k6.some c0; have c1 := k6.some c1)))
        go_roundw
        case rel => exact ⟨j + 1, by omega, by go_num, Lib.hid ((((((GW.out.trans k1).trans k2).trans k3).trans k4).trans k5).trans k6)⟩
        case measure => simp [intOf]; omega
      · obtain rfl : j = 3 := by omega
        go_wp2_with (go_at_call 12; ((with_reducible refine (works_any _).mono ?_); rintro e' w9 ⟨rfl, k9⟩))
        go_ret
        exact ⟨rfl, G0.out.trans k9⟩
end Go.Proofs.Ytbmbcokfohgggaa
