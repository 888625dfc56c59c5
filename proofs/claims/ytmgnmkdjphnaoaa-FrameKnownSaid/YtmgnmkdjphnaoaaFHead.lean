/- What frame.header returns of a valid frame. -/
import Derived.Test.YtmgnmkdjphnaoaaFPut
namespace Go.Proofs.Ytmgnmkdjphnaoaa
open Go Go.RowKit

set_option maxRecDepth 100000 in
set_option maxHeartbeats 4000000 in
theorem header_is (D S P V N Y : Int) (T Q : Bool) (X t : ByteArray) (w : World) (hok : Frm.ok ⟨D, S, T, P, V, Q, N, Y, X⟩ = true) (H : Hid (Frm.hd ⟨D, S, T, P, V, Q, N, Y, X⟩ = t)) : Calls Try.prog 29 #[.agg #[.int .i64 D, .int .i64 S, .bool T, .int .i64 P, .int .i64 V, .bool Q, .int .i64 N, .int .i64 Y, .string X]] w (Res (.string t) w) := by
  have hx := ok_data _ hok
  dsimp only at hx
  obtain ⟨⟨hD, hS⟩, ⟨hP, hV, hN⟩, hY, -⟩ := (ok_iff _).1 hok
  dsimp only at hD hS hP hV hN hY
  clear hok
  have h := H.out
  clear H
  have e16 : (256 : Int) ^ 2 = 65536 := by decide
  have e48 : (256 : Int) ^ 6 = 281474976710656 := by decide
  have bD : Hid (0 ≤ D ∧ D < 256 ^ 6) := Lib.hid (by rw [e48]; omega)
  have bS : Hid (0 ≤ S ∧ S < 256 ^ 6) := Lib.hid (by rw [e48]; omega)
  have b1 : Hid ((0 : Int) ≤ 33024 ∧ (33024 : Int) < 256 ^ 2) := Lib.hid (by decide)
  have b2 : Hid ((0 : Int) ≤ 61889 ∧ (61889 : Int) < 256 ^ 2) := Lib.hid (by decide)
  have b0 : Hid ((0 : Int) ≤ 0 ∧ (0 : Int) < 256 ^ 2) := Lib.hid (by decide)
  have k2 : Hid (1 ≤ 2 ∧ 2 ≤ 7) := Lib.hid (by decide)
  have k6 : Hid (1 ≤ 6 ∧ 6 ≤ 7) := Lib.hid (by decide)
  obtain ⟨n, hn⟩ : ∃ n : Int, (X.size : Int) = n := ⟨_, rfl⟩
  have bX : Hid (0 ≤ n ∧ n < 256 ^ 2) := Lib.hid (by rw [e16]; omega)
  unfold Frm.hd hdA hdK at h
  dsimp only at h
  rw [hn] at h
  obtain ⟨s1, hs1⟩ : ∃ s, encS D 6 ++ encS S 6 = s := ⟨_, rfl⟩
  have z1 : s1.size = 12 := by rw [← hs1, ByteArray.size_append, encS_size, encS_size]
  have HS1 : Hid ((⟨#[]⟩ : ByteArray) ++ encS D 6 ++ encS S 6 = s1) := Lib.hid (by rw [← hs1, nil_add])
  rw [hs1] at h
  clear hs1 hD hS
  cases T with
  | true =>
    have hw : P * 8192 + V < 65536 ∧ 0 ≤ P * 8192 + V := by unfold only at hP hV; simp only [if_true] at hP hV; omega
    have hw1 : wrap64 (P * 8192) = P * 8192 := by unfold wrap64; omega
    obtain ⟨pv, hpv⟩ : ∃ p, P * 8192 + V = p := ⟨_, rfl⟩
    rw [hpv] at hw
    have hw2 : wrap64 (P * 8192 + V) = pv := by rw [hpv]; unfold wrap64; omega
    have bP : Hid (0 ≤ pv ∧ pv < 256 ^ 2) := Lib.hid (by rw [e16]; omega)
    obtain ⟨s2, hs2⟩ : ∃ s, s1 ++ encS 33024 2 ++ encS pv 2 = s := ⟨_, rfl⟩
    have z2 : s2.size = 16 := by rw [← hs2, ByteArray.size_append, ByteArray.size_append, encS_size, encS_size, z1]
    rw [show s1 ++ hdT true P V = s2 by rw [← hs2, ← hpv]; unfold hdT; rw [if_pos rfl, ByteArray.append_assoc]] at h
    have HS2 := Lib.hid hs2
    clear hs2 hpv
    clear hP hV
    cases Q with
    | true =>
      have bN : Hid (0 ≤ N ∧ N < 256 ^ 2) := Lib.hid (by rw [e16]; unfold only at hN; simp only [if_true] at hN; omega)
      obtain ⟨s3, hs3⟩ : ∃ s, s2 ++ encS 61889 2 ++ encS 0 2 ++ encS N 2 = s := ⟨_, rfl⟩
      have z3 : s3.size ≤ 22 := by rw [← hs3, ByteArray.size_append, ByteArray.size_append, ByteArray.size_append, encS_size, encS_size, encS_size, z2]; decide
      rw [show s2 ++ hdQ true N = s3 by rw [← hs3]; unfold hdQ; rw [if_pos rfl]; simp only [ByteArray.append_assoc]] at h
      have HS3 := Lib.hid hs3
      clear hs3
      clear hN
      by_cases hy : Y = 0
      · subst hy
        rw [if_pos rfl] at h
        have HH := Lib.hid h
        have Z1 : Hid (s1.size ≤ 900) := Lib.hid (by omega)
        have Z2 : Hid (s2.size ≤ 900) := Lib.hid (by omega)
        have Z3 : Hid (s3.size ≤ 900) := Lib.hid (by omega)
        have Z0 : Hid ((⟨#[]⟩ : ByteArray).size ≤ 900) := Lib.hid (by decide)
        clear h hY z1 z2 z3 hx
        go_enter Try.func29, Try.ntmps29
        go_upto_region 1 with fail
        have c0 : (w.alloc (.cells #[.int .i64 D, .int .i64 S, .bool true, .int .i64 P, .int .i64 V, .bool true, .int .i64 N, .int .i64 0, .string X] 23)).cell? ⟨w.heap.size, 0, none⟩ = some (.int .i64 D) := by simp [go_sem]
        have c1 : (w.alloc (.cells #[.int .i64 D, .int .i64 S, .bool true, .int .i64 P, .int .i64 V, .bool true, .int .i64 N, .int .i64 0, .string X] 23)).cell? ⟨w.heap.size, 1, none⟩ = some (.int .i64 S) := by simp [go_sem]
        have c2 : (w.alloc (.cells #[.int .i64 D, .int .i64 S, .bool true, .int .i64 P, .int .i64 V, .bool true, .int .i64 N, .int .i64 0, .string X] 23)).cell? ⟨w.heap.size, 2, none⟩ = some (.bool true) := by simp [go_sem]
        have c3 : (w.alloc (.cells #[.int .i64 D, .int .i64 S, .bool true, .int .i64 P, .int .i64 V, .bool true, .int .i64 N, .int .i64 0, .string X] 23)).cell? ⟨w.heap.size, 3, none⟩ = some (.int .i64 P) := by simp [go_sem]
        have c4 : (w.alloc (.cells #[.int .i64 D, .int .i64 S, .bool true, .int .i64 P, .int .i64 V, .bool true, .int .i64 N, .int .i64 0, .string X] 23)).cell? ⟨w.heap.size, 4, none⟩ = some (.int .i64 V) := by simp [go_sem]
        have c5 : (w.alloc (.cells #[.int .i64 D, .int .i64 S, .bool true, .int .i64 P, .int .i64 V, .bool true, .int .i64 N, .int .i64 0, .string X] 23)).cell? ⟨w.heap.size, 5, none⟩ = some (.bool true) := by simp [go_sem]
        have c6 : (w.alloc (.cells #[.int .i64 D, .int .i64 S, .bool true, .int .i64 P, .int .i64 V, .bool true, .int .i64 N, .int .i64 0, .string X] 23)).cell? ⟨w.heap.size, 6, none⟩ = some (.int .i64 N) := by simp [go_sem]
        have c7 : (w.alloc (.cells #[.int .i64 D, .int .i64 S, .bool true, .int .i64 P, .int .i64 V, .bool true, .int .i64 N, .int .i64 0, .string X] 23)).cell? ⟨w.heap.size, 7, none⟩ = some (.int .i64 0) := by simp [go_sem]
        have c8 : (w.alloc (.cells #[.int .i64 D, .int .i64 S, .bool true, .int .i64 P, .int .i64 V, .bool true, .int .i64 N, .int .i64 0, .string X] 23)).cell? ⟨w.heap.size, 8, none⟩ = some (.string X) := by simp [go_sem]
        have K0 := Lib.hid ((Keep.refl w).alloc (.cells #[.int .i64 D, .int .i64 S, .bool true, .int .i64 P, .int .i64 V, .bool true, .int .i64 N, .int .i64 0, .string X] 23))
        generalize (w.alloc (.cells #[.int .i64 D, .int .i64 S, .bool true, .int .i64 P, .int .i64 V, .bool true, .int .i64 N, .int .i64 0, .string X] 23)) = w0 at *
        generalize w.heap.size = B at *
        go_wp2_with (first | (go_at_call 49; ((with_reducible refine (put2_is _ 6 6 _ 2 D S s1 _ k6.out rfl Z0.out bD.out bS.out (by simp [go_sem]) (by simp [go_sem]) HS1).mono ?_); rintro e' w1 ⟨rfl, kk⟩; have K1 := Lib.hid (((Keep.refl _).alloc _).trans kk); clear kk; have c0 := K1.out.some c0; have c1 := K1.out.some c1; have c2 := K1.out.some c2; have c3 := K1.out.some c3; have c4 := K1.out.some c4; have c5 := K1.out.some c5; have c6 := K1.out.some c6; have c7 := K1.out.some c7; have c8 := K1.out.some c8)) | (go_at_call 49; ((with_reducible refine (put2_is s1 2 2 _ 2 33024 pv s2 _ k2.out rfl Z1.out b1.out bP.out (by simp [go_sem]) (by simp [go_sem]) HS2).mono ?_); rintro e' w2 ⟨rfl, kk⟩; have K2 := Lib.hid (((Keep.refl _).alloc _).trans kk); clear kk; have c0 := K2.out.some c0; have c1 := K2.out.some c1; have c2 := K2.out.some c2; have c3 := K2.out.some c3; have c4 := K2.out.some c4; have c5 := K2.out.some c5; have c6 := K2.out.some c6; have c7 := K2.out.some c7; have c8 := K2.out.some c8)) | (go_at_call 49; ((with_reducible refine (put3_is s2 2 2 _ 3 61889 0 N s3 _ k2.out rfl Z2.out b2.out b0.out bN.out (by simp [go_sem]) (by simp [go_sem]) (by simp [go_sem]) HS3).mono ?_); rintro e' w3 ⟨rfl, kk⟩; have K3 := Lib.hid (((Keep.refl _).alloc _).trans kk); clear kk; have c0 := K3.out.some c0; have c1 := K3.out.some c1; have c2 := K3.out.some c2; have c3 := K3.out.some c3; have c4 := K3.out.some c4; have c5 := K3.out.some c5; have c6 := K3.out.some c6; have c7 := K3.out.some c7; have c8 := K3.out.some c8)) | (go_at_call 49; ((with_reducible refine (put1_is s3 2 2 _ 1 n t _ k2.out rfl Z3.out bX.out (by simp [go_sem]) HH).mono ?_); rintro e' w4 ⟨rfl, kk⟩; have K4 := Lib.hid (((Keep.refl _).alloc _).trans kk); clear kk; have c0 := K4.out.some c0; have c1 := K4.out.some c1; have c2 := K4.out.some c2; have c3 := K4.out.some c3; have c4 := K4.out.some c4; have c5 := K4.out.some c5; have c6 := K4.out.some c6; have c7 := K4.out.some c7; have c8 := K4.out.some c8)))
        go_ret
        exact ⟨rfl, K0.out.trans (K1.out.trans (K2.out.trans (K3.out.trans K4.out)))⟩
      · rw [if_neg hy] at h
        have hyb : (Y == 0) = false := by simp [hy]
        have bY : Hid (0 ≤ Y ∧ Y < 256 ^ 2) := Lib.hid (by rw [e16]; omega)
        have HH := Lib.hid h
        have Z1 : Hid (s1.size ≤ 900) := Lib.hid (by omega)
        have Z2 : Hid (s2.size ≤ 900) := Lib.hid (by omega)
        have Z3 : Hid (s3.size ≤ 900) := Lib.hid (by omega)
        have Z0 : Hid ((⟨#[]⟩ : ByteArray).size ≤ 900) := Lib.hid (by decide)
        clear h hY z1 z2 z3 hx
        go_enter Try.func29, Try.ntmps29
        go_upto_region 1 with fail
        have c0 : (w.alloc (.cells #[.int .i64 D, .int .i64 S, .bool true, .int .i64 P, .int .i64 V, .bool true, .int .i64 N, .int .i64 Y, .string X] 23)).cell? ⟨w.heap.size, 0, none⟩ = some (.int .i64 D) := by simp [go_sem]
        have c1 : (w.alloc (.cells #[.int .i64 D, .int .i64 S, .bool true, .int .i64 P, .int .i64 V, .bool true, .int .i64 N, .int .i64 Y, .string X] 23)).cell? ⟨w.heap.size, 1, none⟩ = some (.int .i64 S) := by simp [go_sem]
        have c2 : (w.alloc (.cells #[.int .i64 D, .int .i64 S, .bool true, .int .i64 P, .int .i64 V, .bool true, .int .i64 N, .int .i64 Y, .string X] 23)).cell? ⟨w.heap.size, 2, none⟩ = some (.bool true) := by simp [go_sem]
        have c3 : (w.alloc (.cells #[.int .i64 D, .int .i64 S, .bool true, .int .i64 P, .int .i64 V, .bool true, .int .i64 N, .int .i64 Y, .string X] 23)).cell? ⟨w.heap.size, 3, none⟩ = some (.int .i64 P) := by simp [go_sem]
        have c4 : (w.alloc (.cells #[.int .i64 D, .int .i64 S, .bool true, .int .i64 P, .int .i64 V, .bool true, .int .i64 N, .int .i64 Y, .string X] 23)).cell? ⟨w.heap.size, 4, none⟩ = some (.int .i64 V) := by simp [go_sem]
        have c5 : (w.alloc (.cells #[.int .i64 D, .int .i64 S, .bool true, .int .i64 P, .int .i64 V, .bool true, .int .i64 N, .int .i64 Y, .string X] 23)).cell? ⟨w.heap.size, 5, none⟩ = some (.bool true) := by simp [go_sem]
        have c6 : (w.alloc (.cells #[.int .i64 D, .int .i64 S, .bool true, .int .i64 P, .int .i64 V, .bool true, .int .i64 N, .int .i64 Y, .string X] 23)).cell? ⟨w.heap.size, 6, none⟩ = some (.int .i64 N) := by simp [go_sem]
        have c7 : (w.alloc (.cells #[.int .i64 D, .int .i64 S, .bool true, .int .i64 P, .int .i64 V, .bool true, .int .i64 N, .int .i64 Y, .string X] 23)).cell? ⟨w.heap.size, 7, none⟩ = some (.int .i64 Y) := by simp [go_sem]
        have c8 : (w.alloc (.cells #[.int .i64 D, .int .i64 S, .bool true, .int .i64 P, .int .i64 V, .bool true, .int .i64 N, .int .i64 Y, .string X] 23)).cell? ⟨w.heap.size, 8, none⟩ = some (.string X) := by simp [go_sem]
        have K0 := Lib.hid ((Keep.refl w).alloc (.cells #[.int .i64 D, .int .i64 S, .bool true, .int .i64 P, .int .i64 V, .bool true, .int .i64 N, .int .i64 Y, .string X] 23))
        generalize (w.alloc (.cells #[.int .i64 D, .int .i64 S, .bool true, .int .i64 P, .int .i64 V, .bool true, .int .i64 N, .int .i64 Y, .string X] 23)) = w0 at *
        generalize w.heap.size = B at *
        go_wp2_with (first | (go_at_call 49; ((with_reducible refine (put2_is _ 6 6 _ 2 D S s1 _ k6.out rfl Z0.out bD.out bS.out (by simp [go_sem]) (by simp [go_sem]) HS1).mono ?_); rintro e' w1 ⟨rfl, kk⟩; have K1 := Lib.hid (((Keep.refl _).alloc _).trans kk); clear kk; have c0 := K1.out.some c0; have c1 := K1.out.some c1; have c2 := K1.out.some c2; have c3 := K1.out.some c3; have c4 := K1.out.some c4; have c5 := K1.out.some c5; have c6 := K1.out.some c6; have c7 := K1.out.some c7; have c8 := K1.out.some c8)) | (go_at_call 49; ((with_reducible refine (put2_is s1 2 2 _ 2 33024 pv s2 _ k2.out rfl Z1.out b1.out bP.out (by simp [go_sem]) (by simp [go_sem]) HS2).mono ?_); rintro e' w2 ⟨rfl, kk⟩; have K2 := Lib.hid (((Keep.refl _).alloc _).trans kk); clear kk; have c0 := K2.out.some c0; have c1 := K2.out.some c1; have c2 := K2.out.some c2; have c3 := K2.out.some c3; have c4 := K2.out.some c4; have c5 := K2.out.some c5; have c6 := K2.out.some c6; have c7 := K2.out.some c7; have c8 := K2.out.some c8)) | (go_at_call 49; ((with_reducible refine (put3_is s2 2 2 _ 3 61889 0 N s3 _ k2.out rfl Z2.out b2.out b0.out bN.out (by simp [go_sem]) (by simp [go_sem]) (by simp [go_sem]) HS3).mono ?_); rintro e' w3 ⟨rfl, kk⟩; have K3 := Lib.hid (((Keep.refl _).alloc _).trans kk); clear kk; have c0 := K3.out.some c0; have c1 := K3.out.some c1; have c2 := K3.out.some c2; have c3 := K3.out.some c3; have c4 := K3.out.some c4; have c5 := K3.out.some c5; have c6 := K3.out.some c6; have c7 := K3.out.some c7; have c8 := K3.out.some c8)) | (go_at_call 49; ((with_reducible refine (put1_is s3 2 2 _ 1 Y t _ k2.out rfl Z3.out bY.out (by simp [go_sem]) HH).mono ?_); rintro e' w4 ⟨rfl, kk⟩; have K4 := Lib.hid (((Keep.refl _).alloc _).trans kk); clear kk; have c0 := K4.out.some c0; have c1 := K4.out.some c1; have c2 := K4.out.some c2; have c3 := K4.out.some c3; have c4 := K4.out.some c4; have c5 := K4.out.some c5; have c6 := K4.out.some c6; have c7 := K4.out.some c7; have c8 := K4.out.some c8)))
        go_ret
        exact ⟨rfl, K0.out.trans (K1.out.trans (K2.out.trans (K3.out.trans K4.out)))⟩
    | false =>
      rw [show s2 ++ hdQ false N = s2 by unfold hdQ; simp [add_nil]] at h
      have z3 : s2.size ≤ 22 := by rw [z2]; decide
      clear hN
      by_cases hy : Y = 0
      · subst hy
        rw [if_pos rfl] at h
        have HH := Lib.hid h
        have Z1 : Hid (s1.size ≤ 900) := Lib.hid (by omega)
        have Z2 : Hid (s2.size ≤ 900) := Lib.hid (by omega)
        have Z0 : Hid ((⟨#[]⟩ : ByteArray).size ≤ 900) := Lib.hid (by decide)
        clear h hY z1 z2 z3 hx
        go_enter Try.func29, Try.ntmps29
        go_upto_region 1 with fail
        have c0 : (w.alloc (.cells #[.int .i64 D, .int .i64 S, .bool true, .int .i64 P, .int .i64 V, .bool false, .int .i64 N, .int .i64 0, .string X] 23)).cell? ⟨w.heap.size, 0, none⟩ = some (.int .i64 D) := by simp [go_sem]
        have c1 : (w.alloc (.cells #[.int .i64 D, .int .i64 S, .bool true, .int .i64 P, .int .i64 V, .bool false, .int .i64 N, .int .i64 0, .string X] 23)).cell? ⟨w.heap.size, 1, none⟩ = some (.int .i64 S) := by simp [go_sem]
        have c2 : (w.alloc (.cells #[.int .i64 D, .int .i64 S, .bool true, .int .i64 P, .int .i64 V, .bool false, .int .i64 N, .int .i64 0, .string X] 23)).cell? ⟨w.heap.size, 2, none⟩ = some (.bool true) := by simp [go_sem]
        have c3 : (w.alloc (.cells #[.int .i64 D, .int .i64 S, .bool true, .int .i64 P, .int .i64 V, .bool false, .int .i64 N, .int .i64 0, .string X] 23)).cell? ⟨w.heap.size, 3, none⟩ = some (.int .i64 P) := by simp [go_sem]
        have c4 : (w.alloc (.cells #[.int .i64 D, .int .i64 S, .bool true, .int .i64 P, .int .i64 V, .bool false, .int .i64 N, .int .i64 0, .string X] 23)).cell? ⟨w.heap.size, 4, none⟩ = some (.int .i64 V) := by simp [go_sem]
        have c5 : (w.alloc (.cells #[.int .i64 D, .int .i64 S, .bool true, .int .i64 P, .int .i64 V, .bool false, .int .i64 N, .int .i64 0, .string X] 23)).cell? ⟨w.heap.size, 5, none⟩ = some (.bool false) := by simp [go_sem]
        have c6 : (w.alloc (.cells #[.int .i64 D, .int .i64 S, .bool true, .int .i64 P, .int .i64 V, .bool false, .int .i64 N, .int .i64 0, .string X] 23)).cell? ⟨w.heap.size, 6, none⟩ = some (.int .i64 N) := by simp [go_sem]
        have c7 : (w.alloc (.cells #[.int .i64 D, .int .i64 S, .bool true, .int .i64 P, .int .i64 V, .bool false, .int .i64 N, .int .i64 0, .string X] 23)).cell? ⟨w.heap.size, 7, none⟩ = some (.int .i64 0) := by simp [go_sem]
        have c8 : (w.alloc (.cells #[.int .i64 D, .int .i64 S, .bool true, .int .i64 P, .int .i64 V, .bool false, .int .i64 N, .int .i64 0, .string X] 23)).cell? ⟨w.heap.size, 8, none⟩ = some (.string X) := by simp [go_sem]
        have K0 := Lib.hid ((Keep.refl w).alloc (.cells #[.int .i64 D, .int .i64 S, .bool true, .int .i64 P, .int .i64 V, .bool false, .int .i64 N, .int .i64 0, .string X] 23))
        generalize (w.alloc (.cells #[.int .i64 D, .int .i64 S, .bool true, .int .i64 P, .int .i64 V, .bool false, .int .i64 N, .int .i64 0, .string X] 23)) = w0 at *
        generalize w.heap.size = B at *
        go_wp2_with (first | (go_at_call 49; ((with_reducible refine (put2_is _ 6 6 _ 2 D S s1 _ k6.out rfl Z0.out bD.out bS.out (by simp [go_sem]) (by simp [go_sem]) HS1).mono ?_); rintro e' w1 ⟨rfl, kk⟩; have K1 := Lib.hid (((Keep.refl _).alloc _).trans kk); clear kk; have c0 := K1.out.some c0; have c1 := K1.out.some c1; have c2 := K1.out.some c2; have c3 := K1.out.some c3; have c4 := K1.out.some c4; have c5 := K1.out.some c5; have c6 := K1.out.some c6; have c7 := K1.out.some c7; have c8 := K1.out.some c8)) | (go_at_call 49; ((with_reducible refine (put2_is s1 2 2 _ 2 33024 pv s2 _ k2.out rfl Z1.out b1.out bP.out (by simp [go_sem]) (by simp [go_sem]) HS2).mono ?_); rintro e' w2 ⟨rfl, kk⟩; have K2 := Lib.hid (((Keep.refl _).alloc _).trans kk); clear kk; have c0 := K2.out.some c0; have c1 := K2.out.some c1; have c2 := K2.out.some c2; have c3 := K2.out.some c3; have c4 := K2.out.some c4; have c5 := K2.out.some c5; have c6 := K2.out.some c6; have c7 := K2.out.some c7; have c8 := K2.out.some c8)) | (go_at_call 49; ((with_reducible refine (put1_is s2 2 2 _ 1 n t _ k2.out rfl Z2.out bX.out (by simp [go_sem]) HH).mono ?_); rintro e' w4 ⟨rfl, kk⟩; have K4 := Lib.hid (((Keep.refl _).alloc _).trans kk); clear kk; have c0 := K4.out.some c0; have c1 := K4.out.some c1; have c2 := K4.out.some c2; have c3 := K4.out.some c3; have c4 := K4.out.some c4; have c5 := K4.out.some c5; have c6 := K4.out.some c6; have c7 := K4.out.some c7; have c8 := K4.out.some c8)))
        go_ret
        exact ⟨rfl, K0.out.trans (K1.out.trans (K2.out.trans K4.out))⟩
      · rw [if_neg hy] at h
        have hyb : (Y == 0) = false := by simp [hy]
        have bY : Hid (0 ≤ Y ∧ Y < 256 ^ 2) := Lib.hid (by rw [e16]; omega)
        have HH := Lib.hid h
        have Z1 : Hid (s1.size ≤ 900) := Lib.hid (by omega)
        have Z2 : Hid (s2.size ≤ 900) := Lib.hid (by omega)
        have Z0 : Hid ((⟨#[]⟩ : ByteArray).size ≤ 900) := Lib.hid (by decide)
        clear h hY z1 z2 z3 hx
        go_enter Try.func29, Try.ntmps29
        go_upto_region 1 with fail
        have c0 : (w.alloc (.cells #[.int .i64 D, .int .i64 S, .bool true, .int .i64 P, .int .i64 V, .bool false, .int .i64 N, .int .i64 Y, .string X] 23)).cell? ⟨w.heap.size, 0, none⟩ = some (.int .i64 D) := by simp [go_sem]
        have c1 : (w.alloc (.cells #[.int .i64 D, .int .i64 S, .bool true, .int .i64 P, .int .i64 V, .bool false, .int .i64 N, .int .i64 Y, .string X] 23)).cell? ⟨w.heap.size, 1, none⟩ = some (.int .i64 S) := by simp [go_sem]
        have c2 : (w.alloc (.cells #[.int .i64 D, .int .i64 S, .bool true, .int .i64 P, .int .i64 V, .bool false, .int .i64 N, .int .i64 Y, .string X] 23)).cell? ⟨w.heap.size, 2, none⟩ = some (.bool true) := by simp [go_sem]
        have c3 : (w.alloc (.cells #[.int .i64 D, .int .i64 S, .bool true, .int .i64 P, .int .i64 V, .bool false, .int .i64 N, .int .i64 Y, .string X] 23)).cell? ⟨w.heap.size, 3, none⟩ = some (.int .i64 P) := by simp [go_sem]
        have c4 : (w.alloc (.cells #[.int .i64 D, .int .i64 S, .bool true, .int .i64 P, .int .i64 V, .bool false, .int .i64 N, .int .i64 Y, .string X] 23)).cell? ⟨w.heap.size, 4, none⟩ = some (.int .i64 V) := by simp [go_sem]
        have c5 : (w.alloc (.cells #[.int .i64 D, .int .i64 S, .bool true, .int .i64 P, .int .i64 V, .bool false, .int .i64 N, .int .i64 Y, .string X] 23)).cell? ⟨w.heap.size, 5, none⟩ = some (.bool false) := by simp [go_sem]
        have c6 : (w.alloc (.cells #[.int .i64 D, .int .i64 S, .bool true, .int .i64 P, .int .i64 V, .bool false, .int .i64 N, .int .i64 Y, .string X] 23)).cell? ⟨w.heap.size, 6, none⟩ = some (.int .i64 N) := by simp [go_sem]
        have c7 : (w.alloc (.cells #[.int .i64 D, .int .i64 S, .bool true, .int .i64 P, .int .i64 V, .bool false, .int .i64 N, .int .i64 Y, .string X] 23)).cell? ⟨w.heap.size, 7, none⟩ = some (.int .i64 Y) := by simp [go_sem]
        have c8 : (w.alloc (.cells #[.int .i64 D, .int .i64 S, .bool true, .int .i64 P, .int .i64 V, .bool false, .int .i64 N, .int .i64 Y, .string X] 23)).cell? ⟨w.heap.size, 8, none⟩ = some (.string X) := by simp [go_sem]
        have K0 := Lib.hid ((Keep.refl w).alloc (.cells #[.int .i64 D, .int .i64 S, .bool true, .int .i64 P, .int .i64 V, .bool false, .int .i64 N, .int .i64 Y, .string X] 23))
        generalize (w.alloc (.cells #[.int .i64 D, .int .i64 S, .bool true, .int .i64 P, .int .i64 V, .bool false, .int .i64 N, .int .i64 Y, .string X] 23)) = w0 at *
        generalize w.heap.size = B at *
        go_wp2_with (first | (go_at_call 49; ((with_reducible refine (put2_is _ 6 6 _ 2 D S s1 _ k6.out rfl Z0.out bD.out bS.out (by simp [go_sem]) (by simp [go_sem]) HS1).mono ?_); rintro e' w1 ⟨rfl, kk⟩; have K1 := Lib.hid (((Keep.refl _).alloc _).trans kk); clear kk; have c0 := K1.out.some c0; have c1 := K1.out.some c1; have c2 := K1.out.some c2; have c3 := K1.out.some c3; have c4 := K1.out.some c4; have c5 := K1.out.some c5; have c6 := K1.out.some c6; have c7 := K1.out.some c7; have c8 := K1.out.some c8)) | (go_at_call 49; ((with_reducible refine (put2_is s1 2 2 _ 2 33024 pv s2 _ k2.out rfl Z1.out b1.out bP.out (by simp [go_sem]) (by simp [go_sem]) HS2).mono ?_); rintro e' w2 ⟨rfl, kk⟩; have K2 := Lib.hid (((Keep.refl _).alloc _).trans kk); clear kk; have c0 := K2.out.some c0; have c1 := K2.out.some c1; have c2 := K2.out.some c2; have c3 := K2.out.some c3; have c4 := K2.out.some c4; have c5 := K2.out.some c5; have c6 := K2.out.some c6; have c7 := K2.out.some c7; have c8 := K2.out.some c8)) | (go_at_call 49; ((with_reducible refine (put1_is s2 2 2 _ 1 Y t _ k2.out rfl Z2.out bY.out (by simp [go_sem]) HH).mono ?_); rintro e' w4 ⟨rfl, kk⟩; have K4 := Lib.hid (((Keep.refl _).alloc _).trans kk); clear kk; have c0 := K4.out.some c0; have c1 := K4.out.some c1; have c2 := K4.out.some c2; have c3 := K4.out.some c3; have c4 := K4.out.some c4; have c5 := K4.out.some c5; have c6 := K4.out.some c6; have c7 := K4.out.some c7; have c8 := K4.out.some c8)))
        go_ret
        exact ⟨rfl, K0.out.trans (K1.out.trans (K2.out.trans K4.out))⟩
  | false =>
    rw [show s1 ++ hdT false P V = s1 by unfold hdT; simp [add_nil]] at h
    have z2 := z1
    clear hP hV
    cases Q with
    | true =>
      have bN : Hid (0 ≤ N ∧ N < 256 ^ 2) := Lib.hid (by rw [e16]; unfold only at hN; simp only [if_true] at hN; omega)
      obtain ⟨s3, hs3⟩ : ∃ s, s1 ++ encS 61889 2 ++ encS 0 2 ++ encS N 2 = s := ⟨_, rfl⟩
      have z3 : s3.size ≤ 22 := by rw [← hs3, ByteArray.size_append, ByteArray.size_append, ByteArray.size_append, encS_size, encS_size, encS_size, z2]; decide
      rw [show s1 ++ hdQ true N = s3 by rw [← hs3]; unfold hdQ; rw [if_pos rfl]; simp only [ByteArray.append_assoc]] at h
      have HS3 := Lib.hid hs3
      clear hs3
      clear hN
      by_cases hy : Y = 0
      · subst hy
        rw [if_pos rfl] at h
        have HH := Lib.hid h
        have Z1 : Hid (s1.size ≤ 900) := Lib.hid (by omega)
        have Z3 : Hid (s3.size ≤ 900) := Lib.hid (by omega)
        have Z0 : Hid ((⟨#[]⟩ : ByteArray).size ≤ 900) := Lib.hid (by decide)
        clear h hY z1 z2 z3 hx
        go_enter Try.func29, Try.ntmps29
        go_upto_region 1 with fail
        have c0 : (w.alloc (.cells #[.int .i64 D, .int .i64 S, .bool false, .int .i64 P, .int .i64 V, .bool true, .int .i64 N, .int .i64 0, .string X] 23)).cell? ⟨w.heap.size, 0, none⟩ = some (.int .i64 D) := by simp [go_sem]
        have c1 : (w.alloc (.cells #[.int .i64 D, .int .i64 S, .bool false, .int .i64 P, .int .i64 V, .bool true, .int .i64 N, .int .i64 0, .string X] 23)).cell? ⟨w.heap.size, 1, none⟩ = some (.int .i64 S) := by simp [go_sem]
        have c2 : (w.alloc (.cells #[.int .i64 D, .int .i64 S, .bool false, .int .i64 P, .int .i64 V, .bool true, .int .i64 N, .int .i64 0, .string X] 23)).cell? ⟨w.heap.size, 2, none⟩ = some (.bool false) := by simp [go_sem]
        have c3 : (w.alloc (.cells #[.int .i64 D, .int .i64 S, .bool false, .int .i64 P, .int .i64 V, .bool true, .int .i64 N, .int .i64 0, .string X] 23)).cell? ⟨w.heap.size, 3, none⟩ = some (.int .i64 P) := by simp [go_sem]
        have c4 : (w.alloc (.cells #[.int .i64 D, .int .i64 S, .bool false, .int .i64 P, .int .i64 V, .bool true, .int .i64 N, .int .i64 0, .string X] 23)).cell? ⟨w.heap.size, 4, none⟩ = some (.int .i64 V) := by simp [go_sem]
        have c5 : (w.alloc (.cells #[.int .i64 D, .int .i64 S, .bool false, .int .i64 P, .int .i64 V, .bool true, .int .i64 N, .int .i64 0, .string X] 23)).cell? ⟨w.heap.size, 5, none⟩ = some (.bool true) := by simp [go_sem]
        have c6 : (w.alloc (.cells #[.int .i64 D, .int .i64 S, .bool false, .int .i64 P, .int .i64 V, .bool true, .int .i64 N, .int .i64 0, .string X] 23)).cell? ⟨w.heap.size, 6, none⟩ = some (.int .i64 N) := by simp [go_sem]
        have c7 : (w.alloc (.cells #[.int .i64 D, .int .i64 S, .bool false, .int .i64 P, .int .i64 V, .bool true, .int .i64 N, .int .i64 0, .string X] 23)).cell? ⟨w.heap.size, 7, none⟩ = some (.int .i64 0) := by simp [go_sem]
        have c8 : (w.alloc (.cells #[.int .i64 D, .int .i64 S, .bool false, .int .i64 P, .int .i64 V, .bool true, .int .i64 N, .int .i64 0, .string X] 23)).cell? ⟨w.heap.size, 8, none⟩ = some (.string X) := by simp [go_sem]
        have K0 := Lib.hid ((Keep.refl w).alloc (.cells #[.int .i64 D, .int .i64 S, .bool false, .int .i64 P, .int .i64 V, .bool true, .int .i64 N, .int .i64 0, .string X] 23))
        generalize (w.alloc (.cells #[.int .i64 D, .int .i64 S, .bool false, .int .i64 P, .int .i64 V, .bool true, .int .i64 N, .int .i64 0, .string X] 23)) = w0 at *
        generalize w.heap.size = B at *
        go_wp2_with (first | (go_at_call 49; ((with_reducible refine (put2_is _ 6 6 _ 2 D S s1 _ k6.out rfl Z0.out bD.out bS.out (by simp [go_sem]) (by simp [go_sem]) HS1).mono ?_); rintro e' w1 ⟨rfl, kk⟩; have K1 := Lib.hid (((Keep.refl _).alloc _).trans kk); clear kk; have c0 := K1.out.some c0; have c1 := K1.out.some c1; have c2 := K1.out.some c2; have c3 := K1.out.some c3; have c4 := K1.out.some c4; have c5 := K1.out.some c5; have c6 := K1.out.some c6; have c7 := K1.out.some c7; have c8 := K1.out.some c8)) | (go_at_call 49; ((with_reducible refine (put3_is s1 2 2 _ 3 61889 0 N s3 _ k2.out rfl Z1.out b2.out b0.out bN.out (by simp [go_sem]) (by simp [go_sem]) (by simp [go_sem]) HS3).mono ?_); rintro e' w3 ⟨rfl, kk⟩; have K3 := Lib.hid (((Keep.refl _).alloc _).trans kk); clear kk; have c0 := K3.out.some c0; have c1 := K3.out.some c1; have c2 := K3.out.some c2; have c3 := K3.out.some c3; have c4 := K3.out.some c4; have c5 := K3.out.some c5; have c6 := K3.out.some c6; have c7 := K3.out.some c7; have c8 := K3.out.some c8)) | (go_at_call 49; ((with_reducible refine (put1_is s3 2 2 _ 1 n t _ k2.out rfl Z3.out bX.out (by simp [go_sem]) HH).mono ?_); rintro e' w4 ⟨rfl, kk⟩; have K4 := Lib.hid (((Keep.refl _).alloc _).trans kk); clear kk; have c0 := K4.out.some c0; have c1 := K4.out.some c1; have c2 := K4.out.some c2; have c3 := K4.out.some c3; have c4 := K4.out.some c4; have c5 := K4.out.some c5; have c6 := K4.out.some c6; have c7 := K4.out.some c7; have c8 := K4.out.some c8)))
        go_ret
        exact ⟨rfl, K0.out.trans (K1.out.trans (K3.out.trans K4.out))⟩
      · rw [if_neg hy] at h
        have hyb : (Y == 0) = false := by simp [hy]
        have bY : Hid (0 ≤ Y ∧ Y < 256 ^ 2) := Lib.hid (by rw [e16]; omega)
        have HH := Lib.hid h
        have Z1 : Hid (s1.size ≤ 900) := Lib.hid (by omega)
        have Z3 : Hid (s3.size ≤ 900) := Lib.hid (by omega)
        have Z0 : Hid ((⟨#[]⟩ : ByteArray).size ≤ 900) := Lib.hid (by decide)
        clear h hY z1 z2 z3 hx
        go_enter Try.func29, Try.ntmps29
        go_upto_region 1 with fail
        have c0 : (w.alloc (.cells #[.int .i64 D, .int .i64 S, .bool false, .int .i64 P, .int .i64 V, .bool true, .int .i64 N, .int .i64 Y, .string X] 23)).cell? ⟨w.heap.size, 0, none⟩ = some (.int .i64 D) := by simp [go_sem]
        have c1 : (w.alloc (.cells #[.int .i64 D, .int .i64 S, .bool false, .int .i64 P, .int .i64 V, .bool true, .int .i64 N, .int .i64 Y, .string X] 23)).cell? ⟨w.heap.size, 1, none⟩ = some (.int .i64 S) := by simp [go_sem]
        have c2 : (w.alloc (.cells #[.int .i64 D, .int .i64 S, .bool false, .int .i64 P, .int .i64 V, .bool true, .int .i64 N, .int .i64 Y, .string X] 23)).cell? ⟨w.heap.size, 2, none⟩ = some (.bool false) := by simp [go_sem]
        have c3 : (w.alloc (.cells #[.int .i64 D, .int .i64 S, .bool false, .int .i64 P, .int .i64 V, .bool true, .int .i64 N, .int .i64 Y, .string X] 23)).cell? ⟨w.heap.size, 3, none⟩ = some (.int .i64 P) := by simp [go_sem]
        have c4 : (w.alloc (.cells #[.int .i64 D, .int .i64 S, .bool false, .int .i64 P, .int .i64 V, .bool true, .int .i64 N, .int .i64 Y, .string X] 23)).cell? ⟨w.heap.size, 4, none⟩ = some (.int .i64 V) := by simp [go_sem]
        have c5 : (w.alloc (.cells #[.int .i64 D, .int .i64 S, .bool false, .int .i64 P, .int .i64 V, .bool true, .int .i64 N, .int .i64 Y, .string X] 23)).cell? ⟨w.heap.size, 5, none⟩ = some (.bool true) := by simp [go_sem]
        have c6 : (w.alloc (.cells #[.int .i64 D, .int .i64 S, .bool false, .int .i64 P, .int .i64 V, .bool true, .int .i64 N, .int .i64 Y, .string X] 23)).cell? ⟨w.heap.size, 6, none⟩ = some (.int .i64 N) := by simp [go_sem]
        have c7 : (w.alloc (.cells #[.int .i64 D, .int .i64 S, .bool false, .int .i64 P, .int .i64 V, .bool true, .int .i64 N, .int .i64 Y, .string X] 23)).cell? ⟨w.heap.size, 7, none⟩ = some (.int .i64 Y) := by simp [go_sem]
        have c8 : (w.alloc (.cells #[.int .i64 D, .int .i64 S, .bool false, .int .i64 P, .int .i64 V, .bool true, .int .i64 N, .int .i64 Y, .string X] 23)).cell? ⟨w.heap.size, 8, none⟩ = some (.string X) := by simp [go_sem]
        have K0 := Lib.hid ((Keep.refl w).alloc (.cells #[.int .i64 D, .int .i64 S, .bool false, .int .i64 P, .int .i64 V, .bool true, .int .i64 N, .int .i64 Y, .string X] 23))
        generalize (w.alloc (.cells #[.int .i64 D, .int .i64 S, .bool false, .int .i64 P, .int .i64 V, .bool true, .int .i64 N, .int .i64 Y, .string X] 23)) = w0 at *
        generalize w.heap.size = B at *
        go_wp2_with (first | (go_at_call 49; ((with_reducible refine (put2_is _ 6 6 _ 2 D S s1 _ k6.out rfl Z0.out bD.out bS.out (by simp [go_sem]) (by simp [go_sem]) HS1).mono ?_); rintro e' w1 ⟨rfl, kk⟩; have K1 := Lib.hid (((Keep.refl _).alloc _).trans kk); clear kk; have c0 := K1.out.some c0; have c1 := K1.out.some c1; have c2 := K1.out.some c2; have c3 := K1.out.some c3; have c4 := K1.out.some c4; have c5 := K1.out.some c5; have c6 := K1.out.some c6; have c7 := K1.out.some c7; have c8 := K1.out.some c8)) | (go_at_call 49; ((with_reducible refine (put3_is s1 2 2 _ 3 61889 0 N s3 _ k2.out rfl Z1.out b2.out b0.out bN.out (by simp [go_sem]) (by simp [go_sem]) (by simp [go_sem]) HS3).mono ?_); rintro e' w3 ⟨rfl, kk⟩; have K3 := Lib.hid (((Keep.refl _).alloc _).trans kk); clear kk; have c0 := K3.out.some c0; have c1 := K3.out.some c1; have c2 := K3.out.some c2; have c3 := K3.out.some c3; have c4 := K3.out.some c4; have c5 := K3.out.some c5; have c6 := K3.out.some c6; have c7 := K3.out.some c7; have c8 := K3.out.some c8)) | (go_at_call 49; ((with_reducible refine (put1_is s3 2 2 _ 1 Y t _ k2.out rfl Z3.out bY.out (by simp [go_sem]) HH).mono ?_); rintro e' w4 ⟨rfl, kk⟩; have K4 := Lib.hid (((Keep.refl _).alloc _).trans kk); clear kk; have c0 := K4.out.some c0; have c1 := K4.out.some c1; have c2 := K4.out.some c2; have c3 := K4.out.some c3; have c4 := K4.out.some c4; have c5 := K4.out.some c5; have c6 := K4.out.some c6; have c7 := K4.out.some c7; have c8 := K4.out.some c8)))
        go_ret
        exact ⟨rfl, K0.out.trans (K1.out.trans (K3.out.trans K4.out))⟩
    | false =>
      rw [show s1 ++ hdQ false N = s1 by unfold hdQ; simp [add_nil]] at h
      have z3 : s1.size ≤ 22 := by rw [z2]; decide
      clear hN
      by_cases hy : Y = 0
      · subst hy
        rw [if_pos rfl] at h
        have HH := Lib.hid h
        have Z1 : Hid (s1.size ≤ 900) := Lib.hid (by omega)
        have Z0 : Hid ((⟨#[]⟩ : ByteArray).size ≤ 900) := Lib.hid (by decide)
        clear h hY z1 z2 z3 hx
        go_enter Try.func29, Try.ntmps29
        go_upto_region 1 with fail
        have c0 : (w.alloc (.cells #[.int .i64 D, .int .i64 S, .bool false, .int .i64 P, .int .i64 V, .bool false, .int .i64 N, .int .i64 0, .string X] 23)).cell? ⟨w.heap.size, 0, none⟩ = some (.int .i64 D) := by simp [go_sem]
        have c1 : (w.alloc (.cells #[.int .i64 D, .int .i64 S, .bool false, .int .i64 P, .int .i64 V, .bool false, .int .i64 N, .int .i64 0, .string X] 23)).cell? ⟨w.heap.size, 1, none⟩ = some (.int .i64 S) := by simp [go_sem]
        have c2 : (w.alloc (.cells #[.int .i64 D, .int .i64 S, .bool false, .int .i64 P, .int .i64 V, .bool false, .int .i64 N, .int .i64 0, .string X] 23)).cell? ⟨w.heap.size, 2, none⟩ = some (.bool false) := by simp [go_sem]
        have c3 : (w.alloc (.cells #[.int .i64 D, .int .i64 S, .bool false, .int .i64 P, .int .i64 V, .bool false, .int .i64 N, .int .i64 0, .string X] 23)).cell? ⟨w.heap.size, 3, none⟩ = some (.int .i64 P) := by simp [go_sem]
        have c4 : (w.alloc (.cells #[.int .i64 D, .int .i64 S, .bool false, .int .i64 P, .int .i64 V, .bool false, .int .i64 N, .int .i64 0, .string X] 23)).cell? ⟨w.heap.size, 4, none⟩ = some (.int .i64 V) := by simp [go_sem]
        have c5 : (w.alloc (.cells #[.int .i64 D, .int .i64 S, .bool false, .int .i64 P, .int .i64 V, .bool false, .int .i64 N, .int .i64 0, .string X] 23)).cell? ⟨w.heap.size, 5, none⟩ = some (.bool false) := by simp [go_sem]
        have c6 : (w.alloc (.cells #[.int .i64 D, .int .i64 S, .bool false, .int .i64 P, .int .i64 V, .bool false, .int .i64 N, .int .i64 0, .string X] 23)).cell? ⟨w.heap.size, 6, none⟩ = some (.int .i64 N) := by simp [go_sem]
        have c7 : (w.alloc (.cells #[.int .i64 D, .int .i64 S, .bool false, .int .i64 P, .int .i64 V, .bool false, .int .i64 N, .int .i64 0, .string X] 23)).cell? ⟨w.heap.size, 7, none⟩ = some (.int .i64 0) := by simp [go_sem]
        have c8 : (w.alloc (.cells #[.int .i64 D, .int .i64 S, .bool false, .int .i64 P, .int .i64 V, .bool false, .int .i64 N, .int .i64 0, .string X] 23)).cell? ⟨w.heap.size, 8, none⟩ = some (.string X) := by simp [go_sem]
        have K0 := Lib.hid ((Keep.refl w).alloc (.cells #[.int .i64 D, .int .i64 S, .bool false, .int .i64 P, .int .i64 V, .bool false, .int .i64 N, .int .i64 0, .string X] 23))
        generalize (w.alloc (.cells #[.int .i64 D, .int .i64 S, .bool false, .int .i64 P, .int .i64 V, .bool false, .int .i64 N, .int .i64 0, .string X] 23)) = w0 at *
        generalize w.heap.size = B at *
        go_wp2_with (first | (go_at_call 49; ((with_reducible refine (put2_is _ 6 6 _ 2 D S s1 _ k6.out rfl Z0.out bD.out bS.out (by simp [go_sem]) (by simp [go_sem]) HS1).mono ?_); rintro e' w1 ⟨rfl, kk⟩; have K1 := Lib.hid (((Keep.refl _).alloc _).trans kk); clear kk; have c0 := K1.out.some c0; have c1 := K1.out.some c1; have c2 := K1.out.some c2; have c3 := K1.out.some c3; have c4 := K1.out.some c4; have c5 := K1.out.some c5; have c6 := K1.out.some c6; have c7 := K1.out.some c7; have c8 := K1.out.some c8)) | (go_at_call 49; ((with_reducible refine (put1_is s1 2 2 _ 1 n t _ k2.out rfl Z1.out bX.out (by simp [go_sem]) HH).mono ?_); rintro e' w4 ⟨rfl, kk⟩; have K4 := Lib.hid (((Keep.refl _).alloc _).trans kk); clear kk; have c0 := K4.out.some c0; have c1 := K4.out.some c1; have c2 := K4.out.some c2; have c3 := K4.out.some c3; have c4 := K4.out.some c4; have c5 := K4.out.some c5; have c6 := K4.out.some c6; have c7 := K4.out.some c7; have c8 := K4.out.some c8)))
        go_ret
        exact ⟨rfl, K0.out.trans (K1.out.trans K4.out)⟩
      · rw [if_neg hy] at h
        have hyb : (Y == 0) = false := by simp [hy]
        have bY : Hid (0 ≤ Y ∧ Y < 256 ^ 2) := Lib.hid (by rw [e16]; omega)
        have HH := Lib.hid h
        have Z1 : Hid (s1.size ≤ 900) := Lib.hid (by omega)
        have Z0 : Hid ((⟨#[]⟩ : ByteArray).size ≤ 900) := Lib.hid (by decide)
        clear h hY z1 z2 z3 hx
        go_enter Try.func29, Try.ntmps29
        go_upto_region 1 with fail
        have c0 : (w.alloc (.cells #[.int .i64 D, .int .i64 S, .bool false, .int .i64 P, .int .i64 V, .bool false, .int .i64 N, .int .i64 Y, .string X] 23)).cell? ⟨w.heap.size, 0, none⟩ = some (.int .i64 D) := by simp [go_sem]
        have c1 : (w.alloc (.cells #[.int .i64 D, .int .i64 S, .bool false, .int .i64 P, .int .i64 V, .bool false, .int .i64 N, .int .i64 Y, .string X] 23)).cell? ⟨w.heap.size, 1, none⟩ = some (.int .i64 S) := by simp [go_sem]
        have c2 : (w.alloc (.cells #[.int .i64 D, .int .i64 S, .bool false, .int .i64 P, .int .i64 V, .bool false, .int .i64 N, .int .i64 Y, .string X] 23)).cell? ⟨w.heap.size, 2, none⟩ = some (.bool false) := by simp [go_sem]
        have c3 : (w.alloc (.cells #[.int .i64 D, .int .i64 S, .bool false, .int .i64 P, .int .i64 V, .bool false, .int .i64 N, .int .i64 Y, .string X] 23)).cell? ⟨w.heap.size, 3, none⟩ = some (.int .i64 P) := by simp [go_sem]
        have c4 : (w.alloc (.cells #[.int .i64 D, .int .i64 S, .bool false, .int .i64 P, .int .i64 V, .bool false, .int .i64 N, .int .i64 Y, .string X] 23)).cell? ⟨w.heap.size, 4, none⟩ = some (.int .i64 V) := by simp [go_sem]
        have c5 : (w.alloc (.cells #[.int .i64 D, .int .i64 S, .bool false, .int .i64 P, .int .i64 V, .bool false, .int .i64 N, .int .i64 Y, .string X] 23)).cell? ⟨w.heap.size, 5, none⟩ = some (.bool false) := by simp [go_sem]
        have c6 : (w.alloc (.cells #[.int .i64 D, .int .i64 S, .bool false, .int .i64 P, .int .i64 V, .bool false, .int .i64 N, .int .i64 Y, .string X] 23)).cell? ⟨w.heap.size, 6, none⟩ = some (.int .i64 N) := by simp [go_sem]
        have c7 : (w.alloc (.cells #[.int .i64 D, .int .i64 S, .bool false, .int .i64 P, .int .i64 V, .bool false, .int .i64 N, .int .i64 Y, .string X] 23)).cell? ⟨w.heap.size, 7, none⟩ = some (.int .i64 Y) := by simp [go_sem]
        have c8 : (w.alloc (.cells #[.int .i64 D, .int .i64 S, .bool false, .int .i64 P, .int .i64 V, .bool false, .int .i64 N, .int .i64 Y, .string X] 23)).cell? ⟨w.heap.size, 8, none⟩ = some (.string X) := by simp [go_sem]
        have K0 := Lib.hid ((Keep.refl w).alloc (.cells #[.int .i64 D, .int .i64 S, .bool false, .int .i64 P, .int .i64 V, .bool false, .int .i64 N, .int .i64 Y, .string X] 23))
        generalize (w.alloc (.cells #[.int .i64 D, .int .i64 S, .bool false, .int .i64 P, .int .i64 V, .bool false, .int .i64 N, .int .i64 Y, .string X] 23)) = w0 at *
        generalize w.heap.size = B at *
        go_wp2_with (first | (go_at_call 49; ((with_reducible refine (put2_is _ 6 6 _ 2 D S s1 _ k6.out rfl Z0.out bD.out bS.out (by simp [go_sem]) (by simp [go_sem]) HS1).mono ?_); rintro e' w1 ⟨rfl, kk⟩; have K1 := Lib.hid (((Keep.refl _).alloc _).trans kk); clear kk; have c0 := K1.out.some c0; have c1 := K1.out.some c1; have c2 := K1.out.some c2; have c3 := K1.out.some c3; have c4 := K1.out.some c4; have c5 := K1.out.some c5; have c6 := K1.out.some c6; have c7 := K1.out.some c7; have c8 := K1.out.some c8)) | (go_at_call 49; ((with_reducible refine (put1_is s1 2 2 _ 1 Y t _ k2.out rfl Z1.out bY.out (by simp [go_sem]) HH).mono ?_); rintro e' w4 ⟨rfl, kk⟩; have K4 := Lib.hid (((Keep.refl _).alloc _).trans kk); clear kk; have c0 := K4.out.some c0; have c1 := K4.out.some c1; have c2 := K4.out.some c2; have c3 := K4.out.some c3; have c4 := K4.out.some c4; have c5 := K4.out.some c5; have c6 := K4.out.some c6; have c7 := K4.out.some c7; have c8 := K4.out.some c8)))
        go_ret
        exact ⟨rfl, K0.out.trans (K1.out.trans K4.out)⟩
end Go.Proofs.Ytmgnmkdjphnaoaa
