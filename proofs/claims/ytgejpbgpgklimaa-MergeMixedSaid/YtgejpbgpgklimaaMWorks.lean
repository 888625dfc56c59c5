/- The chapter's examples hold. -/
import Derived.Test.YtgejpbgpgklimaaMWorks1
import Derived.Test.YtgejpbgpgklimaaTail
namespace Go.Proofs.Ytgejpbgpgklimaa
open Go Go.RowKit

theorem two_cut (s : ByteArray) (hs : s.size = 134) (hw0 : wholeB s = true) : ∃ D0 D1 D60 : ByteArray, D0.size = 64 ∧ D1.size = 74 ∧ D60.size = 60 ∧ s.extract 0 60 = D60 ∧ cutL s 2 [60] = [⟨true, 2, 0, D0⟩, ⟨false, 2, 0, D1⟩] ∧ cutE s 2 [60] = 0 ∧
    (∀ m : Mg, m.okB = true → joinM m ⟨true, 2, 0, D0⟩ = ⟨true, 2, 0, D60⟩ ∧ joinS m ⟨true, 2, 0, D0⟩ = ⟨#[]⟩ ∧ joinE m ⟨true, 2, 0, D0⟩ = 0) ∧
    (joinM ⟨true, 2, 0, D60⟩ ⟨false, 2, 0, D1⟩ = zeroM ∧ joinS ⟨true, 2, 0, D60⟩ ⟨false, 2, 0, D1⟩ = s ∧ joinE ⟨true, 2, 0, D60⟩ ⟨false, 2, 0, D1⟩ = 0) ∧
    (∀ k : Int, 0 ≤ k ∧ k ≤ 3 → Pc.okB ⟨false, k, 0, D1⟩ = true) ∧ Mg.okB ⟨true, 2, 0, D60⟩ = true := by
  have hc : okCuts s.size [60] = true := by rw [hs]; decide
  have hv := cut_valid (n := 2) hw0 (by omega) hc
  have hw : Whole s 2 [60] := Whole.of hw0 (by omega) hc
  have hf : fr [60] 1 = 60 := rfl
  have h0 := pc_size hw (k := 0)
  have h1 := pc_size hw (k := 1)
  rw [if_pos (by decide)] at h0
  rw [if_neg (by decide), hs] at h1
  have hst : stK s 2 [60] 1 = ⟨true, 2, 0, s.extract 0 60⟩ := rfl
  have j0 := fun m hm => join_any hw (k := 0) (by decide) m hm (.inl rfl)
  have j1 := join_any hw (k := 1) (by decide) (stK s 2 [60] 1) (st_ok hw 1) (.inr rfl)
  have ok1 := st_ok hw 1
  rw [hst] at j0 j1 ok1
  refine ⟨(pcAt s 2 [60] 0).data, (pcAt s 2 [60] 1).data, _, h0, h1, by rw [ByteArray.size_extract, hs]; rfl, rfl, hv.1.trans rfl, hv.2, fun m hm => j0 m hm, j1, fun k hk => okP_iff.2 ⟨hk, ⟨Int.le_refl _, by show (0 : Int) ≤ 3; decide⟩, by simp, by rw [h1]; decide⟩, ok1⟩
theorem not_on (p : Pc) (h : p.st = false) (hp : p.okB = true) : joinM zeroM p = zeroM ∧ joinS zeroM p = ⟨#[]⟩ ∧ joinE zeroM p = 0 := by
  have hz := zero_ok
  have hst : stepM zeroM p = (zeroM, ⟨#[]⟩) := by unfold stepM fitsB; rw [h]; rfl
  unfold joinM joinS joinE errP
  rw [hz, hp, hst]
  exact ⟨rfl, rfl, rfl⟩
theorem not_fit (m : Mg) (p : Pc) (h : p.st = false) (hm : m.okB = true) (hp : p.okB = true) (hne : m.num ≠ p.num) : joinM m p = zeroM ∧ joinS m p = ⟨#[]⟩ ∧ joinE m p = 0 := by
  have hst : stepM m p = (zeroM, ⟨#[]⟩) := by unfold stepM fitsB; rw [h, decide_eq_false hne]; simp
  unfold joinM joinS joinE errP
  rw [hm, hp, hst]
  exact ⟨rfl, rfl, rfl⟩
theorem chap_no1 : cutL chapS 0 [60, 70] = [] ∧ cutE chapS 0 [60, 70] = 180 := by
  have hc : okCuts chapS.size [60, 70] = false := by rw [chap_size]; decide
  unfold cutL cutE
  rw [hc, chap_whole]
  decide
theorem chap_no2 : cutL chapS 0 [71] = [] ∧ cutE chapS 0 [71] = 180 := by
  have hc : okCuts chapS.size [71] = false := by rw [chap_size]; decide
  unfold cutL cutE
  rw [hc, chap_whole]
  decide
theorem chap_no3 : cutL chapS 4 [] = [] ∧ cutE chapS 4 [] = 2 := by
  unfold cutL cutE
  rw [chap_whole]
  decide
theorem chap_no4 : cutL (repS 0 134) 0 [] = [] ∧ cutE (repS 0 134) 0 [] = 5 := by
  have h : wholeB (repS 0 134) = false := by kernel_rfl
  unfold cutL cutE
  rw [h]
  decide
set_option maxRecDepth 100000 in
set_option maxHeartbeats 4000000 in
theorem works_any (w : World) : Calls Try.prog 16 #[] w (Res (.bool true) w) := by
  obtain ⟨D0, D1, D60, hD0, hD1, hD60, hex, hL, hE, hj0, hj1, hp1, hm1⟩ := two_cut chapS chap_size chap_whole
  obtain ⟨S, hS⟩ : ∃ S, chapS = S := ⟨_, rfl⟩
  have hSs := chap_size
  have n1 := chap_no1
  have n2 := chap_no2
  have n3 := chap_no3
  obtain ⟨Z, hZ⟩ : ∃ Z, repS 0 134 = Z := ⟨_, rfl⟩
  have n4 := chap_no4
  have HS := Lib.hid hS
  have HZ := Lib.hid hZ
  rw [hS] at hex hL hE hj1 hSs n1 n2 n3
  rw [hZ] at n4
  have HL := Lib.hid hL
  have HE := Lib.hid hE
  have HN := Lib.hid (And.intro (And.intro (Lib.hid n1.1) (Lib.hid n1.2)) (And.intro (And.intro (Lib.hid n2.1) (Lib.hid n2.2)) (And.intro (And.intro (Lib.hid n3.1) (Lib.hid n3.2)) (And.intro (Lib.hid n4.1) (Lib.hid n4.2)))))
  have HJ := Lib.hid (And.intro hj0 (And.intro hj1 (And.intro hp1 hm1)))
  have hsl : ∀ wx, (Instr.slice 9 (.string S) none (some (.int .i64 60)) none).run Try.prog wx = .ok (.string D60) wx := fun wx => by rw [← hex]; exact slice_to S 60 (by omega) wx
  have hD0i : (D0.size : Int) = 64 := by omega
  have hD1i : (D1.size : Int) = 74 := by omega
  clear hex hL hE hj0 hj1 hp1 hm1 n1 n2 n3 n4 hS hZ hD0 hD1
  go_enter Try.func16, Try.ntmps16
  go_upto_region 3 with (first | (go_at_call 31; ((with_reducible refine (chapter_is S _ HS).mono ?_); rintro e' w1 ⟨rfl, k1⟩)) | (go_at_call 13; ((with_reducible refine (cut_is S 2 _ [60] _ 0 _ (lit1 _ _ _ _ (by simp)) HL HE).mono ?_); rintro e' w2 ⟨u, rfl, ho, k2⟩)))
  obtain ⟨g, cap, rfl, hgb, hpc⟩ := own_any ho (Nat.succ_le_succ (Nat.zero_le _))
  obtain ⟨p0, p1, p2, p3⟩ := hpc 0 _ rfl
  obtain ⟨q0, q1, q2, q3⟩ := hpc 1 _ rfl
  dsimp only at p0 p1 p2 p3 q0 q1 q2 q3
  go_upto_region 9 with (first | (go_at_call 33; ((with_reducible refine (refused_yes S 0 _ [60, 70] 180 _ (lit2 _ _ _ _ _ (by simp)) HN.out.1.1 HN.out.1.2).mono ?_); rintro e' w3 ⟨rfl, k3⟩)) | (go_at_call 33; ((with_reducible refine (refused_yes S 0 _ [71] 180 _ (lit1 _ _ _ _ (by simp)) HN.out.2.1.1 HN.out.2.1.2).mono ?_); rintro e' w4 ⟨rfl, k4⟩)) | (go_at_call 33; ((with_reducible refine (refused_yes S 4 _ [] 2 _ (litNil _) HN.out.2.2.1.1 HN.out.2.2.1.2).mono ?_); rintro e' w5 ⟨rfl, k5⟩)) | (go_at_call 32; ((with_reducible refine (rep_is 0 134 134 Z _ (by omega) rfl HZ).mono ?_); rintro e' w6 ⟨rfl, k6⟩)) | (go_at_call 33; ((with_reducible refine (refused_yes Z 0 _ [] 5 _ (litNil _) HN.out.2.2.2.1 HN.out.2.2.2.2).mono ?_); rintro e' w7 ⟨rfl, k7⟩; have K7 := ((((((Keep.refl w2).alloc (.cells #[.int .i64 60, .int .i64 70] 3)).trans k3).alloc (.cells #[.int .i64 71] 3)).trans k4).trans k5 |>.trans k6).trans k7; obtain ⟨q0, q1, q2, q3⟩ := (hpc 1 _ rfl).keep K7; dsimp only at q0 q1 q2 q3; have hgl := cellBlock q0)))
  have KA := ((Keep.refl w7).alloc (.cells #[.bool true, .int .i64 2, .int .i64 0, .string D60] 43)).alloc (.cells #[.bool false, .int .i64 3, .int .i64 0, .string D1] 45)
  have hM : MgT 43 ((w7.alloc (.cells #[.bool true, .int .i64 2, .int .i64 0, .string D60] 43)).alloc (.cells #[.bool false, .int .i64 3, .int .i64 0, .string D1] 45)) w7.heap.size true 2 0 D60 := keepRow ((Keep.refl _).alloc _) (mg_new w7 43 true 2 0 D60)
  have hR : MgT 45 ((w7.alloc (.cells #[.bool true, .int .i64 2, .int .i64 0, .string D60] 43)).alloc (.cells #[.bool false, .int .i64 3, .int .i64 0, .string D1] 45)) (w7.heap.size + 1) false 3 0 D1 := by
    have := mg_new (w7.alloc (.cells #[.bool true, .int .i64 2, .int .i64 0, .string D60] 43)) 45 false 3 0 D1
    rwa [World.size_alloc] at this
  obtain ⟨p0, p1, p2, p3⟩ := (hpc 0 _ rfl).keep (K7.trans KA)
  obtain ⟨q0, q1, q2, q3⟩ := (hpc 1 _ rfl).keep (K7.trans KA)
  have HK : Hid (Keep w ((w7.alloc (.cells #[.bool true, .int .i64 2, .int .i64 0, .string D60] 43)).alloc (.cells #[.bool false, .int .i64 3, .int .i64 0, .string D1] 45))) := Lib.hid ((((k1.alloc _).trans k2).trans K7).trans KA)
  dsimp only at p0 p1 p2 p3 q0 q1 q2 q3
  generalize ((w7.alloc (.cells #[.bool true, .int .i64 2, .int .i64 0, .string D60] 43)).alloc (.cells #[.bool false, .int .i64 3, .int .i64 0, .string D1] 45)) = w9 at *
  generalize w7.heap.size + 1 = B6 at *
  generalize w7.heap.size = B5 at *
  simp only [Nat.zero_mul, Nat.one_mul, Nat.zero_add, Nat.reduceAdd] at p0 p1 p2 p3 q0 q1 q2 q3
  obtain ⟨m0, m1, m2, m3⟩ := mg_cells hM
  obtain ⟨r0, r1, r2, r3⟩ := mg_cells hR
  obtain ⟨hj0, hj1, hp1, hm1⟩ := HJ.out
  have HJA : Hid (Hid (joinM ⟨false, 0, 0, ⟨#[]⟩⟩ ⟨true, 2, 0, D0⟩ = ⟨true, 2, 0, D60⟩) ∧ Hid (joinS ⟨false, 0, 0, ⟨#[]⟩⟩ ⟨true, 2, 0, D0⟩ = ⟨#[]⟩) ∧ Hid (joinE ⟨false, 0, 0, ⟨#[]⟩⟩ ⟨true, 2, 0, D0⟩ = 0)) := Lib.hid (by have h := hj0 zeroM zero_ok; exact ⟨Lib.hid h.1, Lib.hid h.2.1, Lib.hid h.2.2⟩)
  have HJB : Hid (Hid (joinM ⟨true, 2, 0, D60⟩ ⟨false, 2, 0, D1⟩ = ⟨false, 0, 0, ⟨#[]⟩⟩) ∧ Hid (joinS ⟨true, 2, 0, D60⟩ ⟨false, 2, 0, D1⟩ = S) ∧ Hid (joinE ⟨true, 2, 0, D60⟩ ⟨false, 2, 0, D1⟩ = 0)) := Lib.hid ⟨Lib.hid hj1.1, Lib.hid hj1.2.1, Lib.hid hj1.2.2⟩
  have HJC : Hid (Hid (joinM ⟨false, 0, 0, ⟨#[]⟩⟩ ⟨false, 2, 0, D1⟩ = ⟨false, 0, 0, ⟨#[]⟩⟩) ∧ Hid (joinS ⟨false, 0, 0, ⟨#[]⟩⟩ ⟨false, 2, 0, D1⟩ = ⟨#[]⟩) ∧ Hid (joinE ⟨false, 0, 0, ⟨#[]⟩⟩ ⟨false, 2, 0, D1⟩ = 0)) := Lib.hid (by have h := not_on ⟨false, 2, 0, D1⟩ rfl (hp1 2 (by omega)); exact ⟨Lib.hid h.1, Lib.hid h.2.1, Lib.hid h.2.2⟩)
  have HJD : Hid (Hid (joinM ⟨true, 2, 0, D60⟩ ⟨false, 3, 0, D1⟩ = ⟨false, 0, 0, ⟨#[]⟩⟩) ∧ Hid (joinS ⟨true, 2, 0, D60⟩ ⟨false, 3, 0, D1⟩ = ⟨#[]⟩) ∧ Hid (joinE ⟨true, 2, 0, D60⟩ ⟨false, 3, 0, D1⟩ = 0)) := Lib.hid (by have h := not_fit ⟨true, 2, 0, D60⟩ ⟨false, 3, 0, D1⟩ rfl hm1 (hp1 3 (by omega)) (by show (2 : Int) ≠ 3; decide); exact ⟨Lib.hid h.1, Lib.hid h.2.1, Lib.hid h.2.2⟩)
  clear hj0 hj1 hp1 hm1 hM hR KA HJ HN HL HE
  refine region_lin (W0 := w9) (listF ((fun (v : Value) (ww : World) => v = .bool true) :: (fun (v : Value) (ww : World) => v = .bool true) :: (fun (v : Value) (ww : World) => v = .agg #[.bool false, .int .i64 0, .int .i64 0, .string ⟨#[]⟩]) :: (fun (v : Value) (ww : World) => v = .slice (some ⟨g, 0, none⟩) 2 cap) :: (fun (v : Value) (ww : World) => v = .pointer (some ⟨g, 0, none⟩)) :: (fun (v : Value) (ww : World) => v = .agg #[.bool true, .int .i64 2, .int .i64 0, .string D0]) :: (fun (v : Value) (ww : World) => v = .agg #[.bool true, .int .i64 2, .int .i64 0, .string D60]) :: (fun (v : Value) (ww : World) => v = .bool true) :: (fun (v : Value) (ww : World) => v = .bool true) :: (fun (v : Value) (ww : World) => v = .bool true) :: (fun (v : Value) (ww : World) => v = .agg #[.bool true, .int .i64 2, .int .i64 0, .string D60]) :: (fun (v : Value) (ww : World) => v = .slice (some ⟨g, 0, none⟩) 2 cap) :: (fun (v : Value) (ww : World) => v = .pointer (some ⟨g, 4, none⟩)) :: (fun (v : Value) (ww : World) => v = .agg #[.bool false, .int .i64 2, .int .i64 0, .string D1]) :: (fun (v : Value) (ww : World) => v = .agg #[.bool false, .int .i64 0, .int .i64 0, .string ⟨#[]⟩]) :: (fun (v : Value) (ww : World) => v = .string S) :: (fun (v : Value) (ww : World) => v = .bool true) :: (fun (v : Value) (ww : World) => v = .bool true) :: (fun (v : Value) (ww : World) => v = .bool true) :: (fun (v : Value) (ww : World) => v = .agg #[.bool false, .int .i64 0, .int .i64 0, .string ⟨#[]⟩]) :: (fun (v : Value) (ww : World) => v = .slice (some ⟨g, 0, none⟩) 2 cap) :: (fun (v : Value) (ww : World) => v = .pointer (some ⟨g, 4, none⟩)) :: (fun (v : Value) (ww : World) => v = .agg #[.bool false, .int .i64 2, .int .i64 0, .string D1]) :: (fun (v : Value) (ww : World) => v = .agg #[.bool false, .int .i64 0, .int .i64 0, .string ⟨#[]⟩]) :: (fun (v : Value) (ww : World) => v = .bool true) :: (fun (v : Value) (ww : World) => v = .bool true) :: (fun (v : Value) (ww : World) => v = .bool true) :: (fun (v : Value) (ww : World) => v = .agg #[.bool true, .int .i64 2, .int .i64 0, .string D60]) :: (fun (v : Value) (ww : World) => v = .agg #[.bool false, .int .i64 3, .int .i64 0, .string D1]) :: (fun (v : Value) (ww : World) => v = .agg #[.bool false, .int .i64 0, .int .i64 0, .string ⟨#[]⟩]) :: (fun (v : Value) (ww : World) => v = .bool true) :: (fun (v : Value) (ww : World) => v = .bool true) :: (fun (v : Value) (ww : World) => v = .bool true) :: [])) (listF_stable _ ⟨fun _ _ _ _ h => h, fun _ _ _ _ h => h, fun _ _ _ _ h => h, fun _ _ _ _ h => h, fun _ _ _ _ h => h, fun _ _ _ _ h => h, fun _ _ _ _ h => h, fun _ _ _ _ h => h, fun _ _ _ _ h => h, fun _ _ _ _ h => h, fun _ _ _ _ h => h, fun _ _ _ _ h => h, fun _ _ _ _ h => h, fun _ _ _ _ h => h, fun _ _ _ _ h => h, fun _ _ _ _ h => h, fun _ _ _ _ h => h, fun _ _ _ _ h => h, fun _ _ _ _ h => h, fun _ _ _ _ h => h, fun _ _ _ _ h => h, fun _ _ _ _ h => h, fun _ _ _ _ h => h, fun _ _ _ _ h => h, fun _ _ _ _ h => h, fun _ _ _ _ h => h, fun _ _ _ _ h => h, fun _ _ _ _ h => h, fun _ _ _ _ h => h, fun _ _ _ _ h => h, fun _ _ _ _ h => h, fun _ _ _ _ h => h, fun _ _ _ _ h => h, trivial⟩) (by kernel_rfl) (by kernel_rfl) (by kernel_rfl) (by kernel_rfl) (Keep.refl _) ?done1 ?steps1
  case done1 =>
    intro T1 wz1 hJ
    obtain ⟨x0, t0, f0⟩ := hJ.fact 0 101 (by decide) (by kernel_rfl)
    obtain rfl : x0 = .bool true := f0
    obtain ⟨x1, t1, f1⟩ := hJ.fact 1 102 (by decide) (by kernel_rfl)
    obtain rfl : x1 = .bool true := f1
    obtain ⟨x2, t2, f2⟩ := hJ.fact 2 103 (by decide) (by kernel_rfl)
    obtain rfl : x2 = .agg #[.bool false, .int .i64 0, .int .i64 0, .string ⟨#[]⟩] := f2
    obtain ⟨x3, t3, f3⟩ := hJ.fact 3 104 (by decide) (by kernel_rfl)
    obtain rfl : x3 = .slice (some ⟨g, 0, none⟩) 2 cap := f3
    obtain ⟨x4, t4, f4⟩ := hJ.fact 4 105 (by decide) (by kernel_rfl)
    obtain rfl : x4 = .pointer (some ⟨g, 0, none⟩) := f4
    obtain ⟨x5, t5, f5⟩ := hJ.fact 5 106 (by decide) (by kernel_rfl)
    obtain rfl : x5 = .agg #[.bool true, .int .i64 2, .int .i64 0, .string D0] := f5
    obtain ⟨x6, t6, f6⟩ := hJ.fact 6 107 (by decide) (by kernel_rfl)
    obtain rfl : x6 = .agg #[.bool true, .int .i64 2, .int .i64 0, .string D60] := f6
    obtain ⟨x7, t7, f7⟩ := hJ.fact 7 108 (by decide) (by kernel_rfl)
    obtain rfl : x7 = .bool true := f7
    obtain ⟨x8, t8, f8⟩ := hJ.fact 8 109 (by decide) (by kernel_rfl)
    obtain rfl : x8 = .bool true := f8
    obtain ⟨x9, t9, f9⟩ := hJ.fact 9 110 (by decide) (by kernel_rfl)
    obtain rfl : x9 = .bool true := f9
    obtain ⟨x10, t10, f10⟩ := hJ.fact 10 111 (by decide) (by kernel_rfl)
    obtain rfl : x10 = .agg #[.bool true, .int .i64 2, .int .i64 0, .string D60] := f10
    obtain ⟨x11, t11, f11⟩ := hJ.fact 11 112 (by decide) (by kernel_rfl)
    obtain rfl : x11 = .slice (some ⟨g, 0, none⟩) 2 cap := f11
    obtain ⟨x12, t12, f12⟩ := hJ.fact 12 113 (by decide) (by kernel_rfl)
    obtain rfl : x12 = .pointer (some ⟨g, 4, none⟩) := f12
    obtain ⟨x13, t13, f13⟩ := hJ.fact 13 114 (by decide) (by kernel_rfl)
    obtain rfl : x13 = .agg #[.bool false, .int .i64 2, .int .i64 0, .string D1] := f13
    obtain ⟨x14, t14, f14⟩ := hJ.fact 14 115 (by decide) (by kernel_rfl)
    obtain rfl : x14 = .agg #[.bool false, .int .i64 0, .int .i64 0, .string ⟨#[]⟩] := f14
    obtain ⟨x15, t15, f15⟩ := hJ.fact 15 116 (by decide) (by kernel_rfl)
    obtain rfl : x15 = .string S := f15
    obtain ⟨x16, t16, f16⟩ := hJ.fact 16 117 (by decide) (by kernel_rfl)
    obtain rfl : x16 = .bool true := f16
    obtain ⟨x17, t17, f17⟩ := hJ.fact 17 118 (by decide) (by kernel_rfl)
    obtain rfl : x17 = .bool true := f17
    obtain ⟨x18, t18, f18⟩ := hJ.fact 18 119 (by decide) (by kernel_rfl)
    obtain rfl : x18 = .bool true := f18
    obtain ⟨x19, t19, f19⟩ := hJ.fact 19 120 (by decide) (by kernel_rfl)
    obtain rfl : x19 = .agg #[.bool false, .int .i64 0, .int .i64 0, .string ⟨#[]⟩] := f19
    obtain ⟨x20, t20, f20⟩ := hJ.fact 20 121 (by decide) (by kernel_rfl)
    obtain rfl : x20 = .slice (some ⟨g, 0, none⟩) 2 cap := f20
    obtain ⟨x21, t21, f21⟩ := hJ.fact 21 122 (by decide) (by kernel_rfl)
    obtain rfl : x21 = .pointer (some ⟨g, 4, none⟩) := f21
    obtain ⟨x22, t22, f22⟩ := hJ.fact 22 123 (by decide) (by kernel_rfl)
    obtain rfl : x22 = .agg #[.bool false, .int .i64 2, .int .i64 0, .string D1] := f22
    obtain ⟨x23, t23, f23⟩ := hJ.fact 23 124 (by decide) (by kernel_rfl)
    obtain rfl : x23 = .agg #[.bool false, .int .i64 0, .int .i64 0, .string ⟨#[]⟩] := f23
    obtain ⟨x24, t24, f24⟩ := hJ.fact 24 125 (by decide) (by kernel_rfl)
    obtain rfl : x24 = .bool true := f24
    obtain ⟨x25, t25, f25⟩ := hJ.fact 25 126 (by decide) (by kernel_rfl)
    obtain rfl : x25 = .bool true := f25
    obtain ⟨x26, t26, f26⟩ := hJ.fact 26 127 (by decide) (by kernel_rfl)
    obtain rfl : x26 = .bool true := f26
    obtain ⟨x27, t27, f27⟩ := hJ.fact 27 128 (by decide) (by kernel_rfl)
    obtain rfl : x27 = .agg #[.bool true, .int .i64 2, .int .i64 0, .string D60] := f27
    obtain ⟨x28, t28, f28⟩ := hJ.fact 28 129 (by decide) (by kernel_rfl)
    obtain rfl : x28 = .agg #[.bool false, .int .i64 3, .int .i64 0, .string D1] := f28
    obtain ⟨x29, t29, f29⟩ := hJ.fact 29 130 (by decide) (by kernel_rfl)
    obtain rfl : x29 = .agg #[.bool false, .int .i64 0, .int .i64 0, .string ⟨#[]⟩] := f29
    obtain ⟨x30, t30, f30⟩ := hJ.fact 30 131 (by decide) (by kernel_rfl)
    obtain rfl : x30 = .bool true := f30
    obtain ⟨x31, t31, f31⟩ := hJ.fact 31 132 (by decide) (by kernel_rfl)
    obtain rfl : x31 = .bool true := f31
    obtain ⟨x32, t32, f32⟩ := hJ.fact 32 0 (by decide) (by kernel_rfl)
    obtain rfl : x32 = .bool true := f32
    have hfr := hJ.frame ((101, .bool true) :: (102, .bool true) :: (103, .agg #[.bool false, .int .i64 0, .int .i64 0, .string ⟨#[]⟩]) :: (104, .slice (some ⟨g, 0, none⟩) 2 cap) :: (105, .pointer (some ⟨g, 0, none⟩)) :: (106, .agg #[.bool true, .int .i64 2, .int .i64 0, .string D0]) :: (107, .agg #[.bool true, .int .i64 2, .int .i64 0, .string D60]) :: (108, .bool true) :: (109, .bool true) :: (110, .bool true) :: (111, .agg #[.bool true, .int .i64 2, .int .i64 0, .string D60]) :: (112, .slice (some ⟨g, 0, none⟩) 2 cap) :: (113, .pointer (some ⟨g, 4, none⟩)) :: (114, .agg #[.bool false, .int .i64 2, .int .i64 0, .string D1]) :: (115, .agg #[.bool false, .int .i64 0, .int .i64 0, .string ⟨#[]⟩]) :: (116, .string S) :: (117, .bool true) :: (118, .bool true) :: (119, .bool true) :: (120, .agg #[.bool false, .int .i64 0, .int .i64 0, .string ⟨#[]⟩]) :: (121, .slice (some ⟨g, 0, none⟩) 2 cap) :: (122, .pointer (some ⟨g, 4, none⟩)) :: (123, .agg #[.bool false, .int .i64 2, .int .i64 0, .string D1]) :: (124, .agg #[.bool false, .int .i64 0, .int .i64 0, .string ⟨#[]⟩]) :: (125, .bool true) :: (126, .bool true) :: (127, .bool true) :: (128, .agg #[.bool true, .int .i64 2, .int .i64 0, .string D60]) :: (129, .agg #[.bool false, .int .i64 3, .int .i64 0, .string D1]) :: (130, .agg #[.bool false, .int .i64 0, .int .i64 0, .string ⟨#[]⟩]) :: (131, .bool true) :: (132, .bool true) :: (0, .bool true) :: []) (by simp [t0, t1, t2, t3, t4, t5, t6, t7, t8, t9, t10, t11, t12, t13, t14, t15, t16, t17, t18, t19, t20, t21, t22, t23, t24, t25, t26, t27, t28, t29, t30, t31, t32]) (by kernel_rfl)
    have G := hJ.keep
    clear hJ t0 t1 t2 t3 t4 t5 t6 t7 t8 t9 t10 t11 t12 t13 t14 t15 t16 t17 t18 t19 t20 t21 t22 t23 t24 t25 t26 t27 t28 t29 t30 t31 t32
    rw [hfr]
    clear hfr T1
    simp only [List.foldl_cons, List.foldl_nil, List.setIfInBounds_toArray, List.set_cons_zero, List.set_cons_succ]
    go_wp2
    go_ret
    exact ⟨rfl, HK.out.trans G⟩
  case steps1 =>
    refine LinSteps.cons (k := 0) ?_ (LinSteps.cons (k := 1) ?_ (LinSteps.cons (k := 2) ?_ (LinSteps.cons (k := 3) ?_ (LinSteps.cons (k := 4) ?_ (LinSteps.cons (k := 5) ?_ (LinSteps.cons (k := 6) ?_ (LinSteps.cons (k := 7) ?_ (LinSteps.cons (k := 8) ?_ (LinSteps.cons (k := 9) ?_ (LinSteps.cons (k := 10) ?_ (LinSteps.cons (k := 11) ?_ (LinSteps.cons (k := 12) ?_ (LinSteps.cons (k := 13) ?_ (LinSteps.cons (k := 14) ?_ (LinSteps.cons (k := 15) ?_ (LinSteps.cons (k := 16) ?_ (LinSteps.cons (k := 17) ?_ (LinSteps.cons (k := 18) ?_ (LinSteps.cons (k := 19) ?_ (LinSteps.cons (k := 20) ?_ (LinSteps.cons (k := 21) ?_ (LinSteps.cons (k := 22) ?_ (LinSteps.cons (k := 23) ?_ (LinSteps.cons (k := 24) ?_ (LinSteps.cons (k := 25) ?_ (LinSteps.cons (k := 26) ?_ (LinSteps.cons (k := 27) ?_ (LinSteps.cons (k := 28) ?_ (LinSteps.cons (k := 29) ?_ (LinSteps.cons (k := 30) ?_ (LinSteps.cons (k := 31) ?_ (LinSteps.cons (k := 32) ?_ (LinSteps.nil)))))))))))))))))))))))))))))))))
    · -- 0
      refine LinStep.plain rfl ?_
      intro QQ bb T ww hn hJ hd K HK
      have s4 := (hJ.oldSlot 4 (by kernel_rfl))
      simp only [List.getElem?_toArray, List.getElem?_cons_zero, List.getElem?_cons_succ] at s4
      have G := hJ.keep
      clear hJ hd hn
      go_simp
      exact HK.out _ _ (Keep.refl _) rfl
    · -- 1
      refine LinStep.plain rfl ?_
      intro QQ bb T ww hn hJ hd K HK
      obtain ⟨x0, t0, f0⟩ := hJ.dep hd 0 101 (by kernel_rfl) (by kernel_rfl)
      obtain rfl : x0 = .bool true := f0
      have G := hJ.keep
      clear hJ hd hn
      go_simp
      exact HK.out _ _ (Keep.refl _) rfl
    · -- 2
      refine LinStep.guarded 1 102 true rfl (by kernel_rfl) (by kernel_rfl) (fun _ _ h => h) ?_
      intro QQ bb T ww hn hJ hd K HK
      have G := hJ.keep
      clear hJ hd hn
      go_simp
      exact HK.out _ _ (Keep.refl _) rfl
    · -- 3
      refine LinStep.guarded 1 102 true rfl (by kernel_rfl) (by kernel_rfl) (fun _ _ h => h) ?_
      intro QQ bb T ww hn hJ hd K HK
      have s2 := (hJ.oldSlot 2 (by kernel_rfl))
      simp only [List.getElem?_toArray, List.getElem?_cons_zero, List.getElem?_cons_succ] at s2
      have G := hJ.keep
      clear hJ hd hn
      go_simp
      exact HK.out _ _ (Keep.refl _) rfl
    · -- 4
      refine LinStep.guarded 1 102 true rfl (by kernel_rfl) (by kernel_rfl) (fun _ _ h => h) ?_
      intro QQ bb T ww hn hJ hd K HK
      obtain ⟨x3, t3, f3⟩ := hJ.dep hd 3 104 (by kernel_rfl) (by kernel_rfl)
      obtain rfl : x3 = .slice (some ⟨g, 0, none⟩) 2 cap := f3
      have G := hJ.keep
      clear hJ hd hn
      go_simp
      exact HK.out _ _ (Keep.refl _) rfl
    · -- 5
      refine LinStep.guarded 1 102 true rfl (by kernel_rfl) (by kernel_rfl) (fun _ _ h => h) ?_
      intro QQ bb T ww hn hJ hd K HK
      obtain ⟨x4, t4, f4⟩ := hJ.dep hd 4 105 (by kernel_rfl) (by kernel_rfl)
      obtain rfl : x4 = .pointer (some ⟨g, 0, none⟩) := f4
      have G := hJ.keep
      clear hJ hd hn
      have k0 := G.some p0
      have k1 := G.some p1
      have k2 := G.some p2
      have k3 := G.some p3
      go_simp
      exact HK.out _ _ (Keep.refl _) rfl
    · -- 6
      refine LinStep.guarded 1 102 true rfl (by kernel_rfl) (by kernel_rfl) (fun _ _ h => h) ?_
      intro QQ bb T ww hn hJ hd K HK
      have s5 := (hJ.oldSlot 5 (by kernel_rfl))
      simp only [List.getElem?_toArray, List.getElem?_cons_zero, List.getElem?_cons_succ] at s5
      have G := hJ.keep
      clear hJ hd hn
      have k0 := G.some m0
      have k1 := G.some m1
      have k2 := G.some m2
      have k3 := G.some m3
      go_simp
      exact HK.out _ _ (Keep.refl _) rfl
    · -- 7
      refine LinStep.guarded 1 102 true rfl (by kernel_rfl) (by kernel_rfl) (fun _ _ h => h) ?_
      intro QQ bb T ww hn hJ hd K HK
      obtain ⟨x2, t2, f2⟩ := hJ.dep hd 2 103 (by kernel_rfl) (by kernel_rfl)
      obtain rfl : x2 = .agg #[.bool false, .int .i64 0, .int .i64 0, .string ⟨#[]⟩] := f2
      obtain ⟨x5, t5, f5⟩ := hJ.dep hd 5 106 (by kernel_rfl) (by kernel_rfl)
      obtain rfl : x5 = .agg #[.bool true, .int .i64 2, .int .i64 0, .string D0] := f5
      obtain ⟨x6, t6, f6⟩ := hJ.dep hd 6 107 (by kernel_rfl) (by kernel_rfl)
      obtain rfl : x6 = .agg #[.bool true, .int .i64 2, .int .i64 0, .string D60] := f6
      have G := hJ.keep
      clear hJ hd hn
      go_wp2_with ((go_at_call 30; ((with_reducible refine (joins_yes false 0 0 ⟨#[]⟩ true 2 0 D0 true 2 0 D60 ⟨#[]⟩ _ HJA.out.1 HJA.out.2.1 HJA.out.2.2).mono ?_); rintro e' w1 ⟨rfl, hk⟩)))
      exact HK.out _ _ hk rfl
    · -- 8
      refine LinStep.plain rfl ?_
      intro QQ bb T ww hn hJ hd K HK
      obtain ⟨x1, t1, f1⟩ := hJ.dep hd 1 102 (by kernel_rfl) (by kernel_rfl)
      obtain rfl : x1 = .bool true := f1
      obtain ⟨x7, t7, f7⟩ := hJ.dep hd 7 108 (by kernel_rfl) (by kernel_rfl)
      obtain rfl : x7 = .bool true := f7
      have G := hJ.keep
      clear hJ hd hn
      go_simp
      exact HK.out _ _ (Keep.refl _) rfl
    · -- 9
      refine LinStep.plain rfl ?_
      intro QQ bb T ww hn hJ hd K HK
      obtain ⟨x8, t8, f8⟩ := hJ.dep hd 8 109 (by kernel_rfl) (by kernel_rfl)
      obtain rfl : x8 = .bool true := f8
      have G := hJ.keep
      clear hJ hd hn
      go_simp
      exact HK.out _ _ (Keep.refl _) rfl
    · -- 10
      refine LinStep.guarded 9 110 true rfl (by kernel_rfl) (by kernel_rfl) (fun _ _ h => h) ?_
      intro QQ bb T ww hn hJ hd K HK
      have s5 := (hJ.oldSlot 5 (by kernel_rfl))
      simp only [List.getElem?_toArray, List.getElem?_cons_zero, List.getElem?_cons_succ] at s5
      have G := hJ.keep
      clear hJ hd hn
      have k0 := G.some m0
      have k1 := G.some m1
      have k2 := G.some m2
      have k3 := G.some m3
      go_simp
      exact HK.out _ _ (Keep.refl _) rfl
    · -- 11
      refine LinStep.guarded 9 110 true rfl (by kernel_rfl) (by kernel_rfl) (fun _ _ h => h) ?_
      intro QQ bb T ww hn hJ hd K HK
      have s2 := (hJ.oldSlot 2 (by kernel_rfl))
      simp only [List.getElem?_toArray, List.getElem?_cons_zero, List.getElem?_cons_succ] at s2
      have G := hJ.keep
      clear hJ hd hn
      go_simp
      exact HK.out _ _ (Keep.refl _) rfl
    · -- 12
      refine LinStep.guarded 9 110 true rfl (by kernel_rfl) (by kernel_rfl) (fun _ _ h => h) ?_
      intro QQ bb T ww hn hJ hd K HK
      obtain ⟨x11, t11, f11⟩ := hJ.dep hd 11 112 (by kernel_rfl) (by kernel_rfl)
      obtain rfl : x11 = .slice (some ⟨g, 0, none⟩) 2 cap := f11
      have G := hJ.keep
      clear hJ hd hn
      go_simp
      exact HK.out _ _ (Keep.refl _) rfl
    · -- 13
      refine LinStep.guarded 9 110 true rfl (by kernel_rfl) (by kernel_rfl) (fun _ _ h => h) ?_
      intro QQ bb T ww hn hJ hd K HK
      obtain ⟨x12, t12, f12⟩ := hJ.dep hd 12 113 (by kernel_rfl) (by kernel_rfl)
      obtain rfl : x12 = .pointer (some ⟨g, 4, none⟩) := f12
      have G := hJ.keep
      clear hJ hd hn
      have k0 := G.some q0
      have k1 := G.some q1
      have k2 := G.some q2
      have k3 := G.some q3
      go_simp
      exact HK.out _ _ (Keep.refl _) rfl
    · -- 14
      refine LinStep.guarded 9 110 true rfl (by kernel_rfl) (by kernel_rfl) (fun _ _ h => h) ?_
      intro QQ bb T ww hn hJ hd K HK
      have G := hJ.keep
      clear hJ hd hn
      go_simp
      exact HK.out _ _ (Keep.refl _) rfl
    · -- 15
      refine LinStep.guarded 9 110 true rfl (by kernel_rfl) (by kernel_rfl) (fun _ _ h => h) ?_
      intro QQ bb T ww hn hJ hd K HK
      have s1 := (hJ.oldSlot 1 (by kernel_rfl))
      simp only [List.getElem?_toArray, List.getElem?_cons_zero, List.getElem?_cons_succ] at s1
      have G := hJ.keep
      clear hJ hd hn
      go_simp
      exact HK.out _ _ (Keep.refl _) rfl
    · -- 16
      refine LinStep.guarded 9 110 true rfl (by kernel_rfl) (by kernel_rfl) (fun _ _ h => h) ?_
      intro QQ bb T ww hn hJ hd K HK
      obtain ⟨x10, t10, f10⟩ := hJ.dep hd 10 111 (by kernel_rfl) (by kernel_rfl)
      obtain rfl : x10 = .agg #[.bool true, .int .i64 2, .int .i64 0, .string D60] := f10
      obtain ⟨x13, t13, f13⟩ := hJ.dep hd 13 114 (by kernel_rfl) (by kernel_rfl)
      obtain rfl : x13 = .agg #[.bool false, .int .i64 2, .int .i64 0, .string D1] := f13
      obtain ⟨x14, t14, f14⟩ := hJ.dep hd 14 115 (by kernel_rfl) (by kernel_rfl)
      obtain rfl : x14 = .agg #[.bool false, .int .i64 0, .int .i64 0, .string ⟨#[]⟩] := f14
      obtain ⟨x15, t15, f15⟩ := hJ.dep hd 15 116 (by kernel_rfl) (by kernel_rfl)
      obtain rfl : x15 = .string S := f15
      have G := hJ.keep
      clear hJ hd hn
      go_wp2_with ((go_at_call 30; ((with_reducible refine (joins_yes true 2 0 D60 false 2 0 D1 false 0 0 ⟨#[]⟩ S _ HJB.out.1 HJB.out.2.1 HJB.out.2.2).mono ?_); rintro e' w1 ⟨rfl, hk⟩)))
      exact HK.out _ _ hk rfl
    · -- 17
      refine LinStep.plain rfl ?_
      intro QQ bb T ww hn hJ hd K HK
      obtain ⟨x9, t9, f9⟩ := hJ.dep hd 9 110 (by kernel_rfl) (by kernel_rfl)
      obtain rfl : x9 = .bool true := f9
      obtain ⟨x16, t16, f16⟩ := hJ.dep hd 16 117 (by kernel_rfl) (by kernel_rfl)
      obtain rfl : x16 = .bool true := f16
      have G := hJ.keep
      clear hJ hd hn
      go_simp
      exact HK.out _ _ (Keep.refl _) rfl
    · -- 18
      refine LinStep.plain rfl ?_
      intro QQ bb T ww hn hJ hd K HK
      obtain ⟨x17, t17, f17⟩ := hJ.dep hd 17 118 (by kernel_rfl) (by kernel_rfl)
      obtain rfl : x17 = .bool true := f17
      have G := hJ.keep
      clear hJ hd hn
      go_simp
      exact HK.out _ _ (Keep.refl _) rfl
    · -- 19
      refine LinStep.guarded 18 119 true rfl (by kernel_rfl) (by kernel_rfl) (fun _ _ h => h) ?_
      intro QQ bb T ww hn hJ hd K HK
      have G := hJ.keep
      clear hJ hd hn
      go_simp
      exact HK.out _ _ (Keep.refl _) rfl
    · -- 20
      refine LinStep.guarded 18 119 true rfl (by kernel_rfl) (by kernel_rfl) (fun _ _ h => h) ?_
      intro QQ bb T ww hn hJ hd K HK
      have s2 := (hJ.oldSlot 2 (by kernel_rfl))
      simp only [List.getElem?_toArray, List.getElem?_cons_zero, List.getElem?_cons_succ] at s2
      have G := hJ.keep
      clear hJ hd hn
      go_simp
      exact HK.out _ _ (Keep.refl _) rfl
    · -- 21
      refine LinStep.guarded 18 119 true rfl (by kernel_rfl) (by kernel_rfl) (fun _ _ h => h) ?_
      intro QQ bb T ww hn hJ hd K HK
      obtain ⟨x20, t20, f20⟩ := hJ.dep hd 20 121 (by kernel_rfl) (by kernel_rfl)
      obtain rfl : x20 = .slice (some ⟨g, 0, none⟩) 2 cap := f20
      have G := hJ.keep
      clear hJ hd hn
      go_simp
      exact HK.out _ _ (Keep.refl _) rfl
    · -- 22
      refine LinStep.guarded 18 119 true rfl (by kernel_rfl) (by kernel_rfl) (fun _ _ h => h) ?_
      intro QQ bb T ww hn hJ hd K HK
      obtain ⟨x21, t21, f21⟩ := hJ.dep hd 21 122 (by kernel_rfl) (by kernel_rfl)
      obtain rfl : x21 = .pointer (some ⟨g, 4, none⟩) := f21
      have G := hJ.keep
      clear hJ hd hn
      have k0 := G.some q0
      have k1 := G.some q1
      have k2 := G.some q2
      have k3 := G.some q3
      go_simp
      exact HK.out _ _ (Keep.refl _) rfl
    · -- 23
      refine LinStep.guarded 18 119 true rfl (by kernel_rfl) (by kernel_rfl) (fun _ _ h => h) ?_
      intro QQ bb T ww hn hJ hd K HK
      have G := hJ.keep
      clear hJ hd hn
      go_simp
      exact HK.out _ _ (Keep.refl _) rfl
    · -- 24
      refine LinStep.guarded 18 119 true rfl (by kernel_rfl) (by kernel_rfl) (fun _ _ h => h) ?_
      intro QQ bb T ww hn hJ hd K HK
      obtain ⟨x19, t19, f19⟩ := hJ.dep hd 19 120 (by kernel_rfl) (by kernel_rfl)
      obtain rfl : x19 = .agg #[.bool false, .int .i64 0, .int .i64 0, .string ⟨#[]⟩] := f19
      obtain ⟨x22, t22, f22⟩ := hJ.dep hd 22 123 (by kernel_rfl) (by kernel_rfl)
      obtain rfl : x22 = .agg #[.bool false, .int .i64 2, .int .i64 0, .string D1] := f22
      obtain ⟨x23, t23, f23⟩ := hJ.dep hd 23 124 (by kernel_rfl) (by kernel_rfl)
      obtain rfl : x23 = .agg #[.bool false, .int .i64 0, .int .i64 0, .string ⟨#[]⟩] := f23
      have G := hJ.keep
      clear hJ hd hn
      go_wp2_with ((go_at_call 30; ((with_reducible refine (joins_yes false 0 0 ⟨#[]⟩ false 2 0 D1 false 0 0 ⟨#[]⟩ ⟨#[]⟩ _ HJC.out.1 HJC.out.2.1 HJC.out.2.2).mono ?_); rintro e' w1 ⟨rfl, hk⟩)))
      exact HK.out _ _ hk rfl
    · -- 25
      refine LinStep.plain rfl ?_
      intro QQ bb T ww hn hJ hd K HK
      obtain ⟨x18, t18, f18⟩ := hJ.dep hd 18 119 (by kernel_rfl) (by kernel_rfl)
      obtain rfl : x18 = .bool true := f18
      obtain ⟨x24, t24, f24⟩ := hJ.dep hd 24 125 (by kernel_rfl) (by kernel_rfl)
      obtain rfl : x24 = .bool true := f24
      have G := hJ.keep
      clear hJ hd hn
      go_simp
      exact HK.out _ _ (Keep.refl _) rfl
    · -- 26
      refine LinStep.plain rfl ?_
      intro QQ bb T ww hn hJ hd K HK
      obtain ⟨x25, t25, f25⟩ := hJ.dep hd 25 126 (by kernel_rfl) (by kernel_rfl)
      obtain rfl : x25 = .bool true := f25
      have G := hJ.keep
      clear hJ hd hn
      go_simp
      exact HK.out _ _ (Keep.refl _) rfl
    · -- 27
      refine LinStep.guarded 26 127 true rfl (by kernel_rfl) (by kernel_rfl) (fun _ _ h => h) ?_
      intro QQ bb T ww hn hJ hd K HK
      have s5 := (hJ.oldSlot 5 (by kernel_rfl))
      simp only [List.getElem?_toArray, List.getElem?_cons_zero, List.getElem?_cons_succ] at s5
      have G := hJ.keep
      clear hJ hd hn
      have k0 := G.some m0
      have k1 := G.some m1
      have k2 := G.some m2
      have k3 := G.some m3
      go_simp
      exact HK.out _ _ (Keep.refl _) rfl
    · -- 28
      refine LinStep.guarded 26 127 true rfl (by kernel_rfl) (by kernel_rfl) (fun _ _ h => h) ?_
      intro QQ bb T ww hn hJ hd K HK
      have s6 := (hJ.oldSlot 6 (by kernel_rfl))
      simp only [List.getElem?_toArray, List.getElem?_cons_zero, List.getElem?_cons_succ] at s6
      have G := hJ.keep
      clear hJ hd hn
      have k0 := G.some r0
      have k1 := G.some r1
      have k2 := G.some r2
      have k3 := G.some r3
      go_simp
      exact HK.out _ _ (Keep.refl _) rfl
    · -- 29
      refine LinStep.guarded 26 127 true rfl (by kernel_rfl) (by kernel_rfl) (fun _ _ h => h) ?_
      intro QQ bb T ww hn hJ hd K HK
      have G := hJ.keep
      clear hJ hd hn
      go_simp
      exact HK.out _ _ (Keep.refl _) rfl
    · -- 30
      refine LinStep.guarded 26 127 true rfl (by kernel_rfl) (by kernel_rfl) (fun _ _ h => h) ?_
      intro QQ bb T ww hn hJ hd K HK
      obtain ⟨x27, t27, f27⟩ := hJ.dep hd 27 128 (by kernel_rfl) (by kernel_rfl)
      obtain rfl : x27 = .agg #[.bool true, .int .i64 2, .int .i64 0, .string D60] := f27
      obtain ⟨x28, t28, f28⟩ := hJ.dep hd 28 129 (by kernel_rfl) (by kernel_rfl)
      obtain rfl : x28 = .agg #[.bool false, .int .i64 3, .int .i64 0, .string D1] := f28
      obtain ⟨x29, t29, f29⟩ := hJ.dep hd 29 130 (by kernel_rfl) (by kernel_rfl)
      obtain rfl : x29 = .agg #[.bool false, .int .i64 0, .int .i64 0, .string ⟨#[]⟩] := f29
      have G := hJ.keep
      clear hJ hd hn
      go_wp2_with ((go_at_call 30; ((with_reducible refine (joins_yes true 2 0 D60 false 3 0 D1 false 0 0 ⟨#[]⟩ ⟨#[]⟩ _ HJD.out.1 HJD.out.2.1 HJD.out.2.2).mono ?_); rintro e' w1 ⟨rfl, hk⟩)))
      exact HK.out _ _ hk rfl
    · -- 31
      refine LinStep.plain rfl ?_
      intro QQ bb T ww hn hJ hd K HK
      obtain ⟨x26, t26, f26⟩ := hJ.dep hd 26 127 (by kernel_rfl) (by kernel_rfl)
      obtain rfl : x26 = .bool true := f26
      obtain ⟨x30, t30, f30⟩ := hJ.dep hd 30 131 (by kernel_rfl) (by kernel_rfl)
      obtain rfl : x30 = .bool true := f30
      have G := hJ.keep
      clear hJ hd hn
      go_simp
      exact HK.out _ _ (Keep.refl _) rfl
    · -- 32
      refine LinStep.plain rfl ?_
      intro QQ bb T ww hn hJ hd K HK
      obtain ⟨x31, t31, f31⟩ := hJ.dep hd 31 132 (by kernel_rfl) (by kernel_rfl)
      obtain rfl : x31 = .bool true := f31
      have G := hJ.keep
      clear hJ hd hn
      go_simp
      exact HK.out _ _ (Keep.refl _) rfl
end Go.Proofs.Ytgejpbgpgklimaa
