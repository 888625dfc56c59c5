/- What the reference's Cut returns. -/
import Derived.Test.YtgejpbgpgklimaaMCut
namespace Go.Proofs.Ytgejpbgpgklimaa
open Go Go.RowKit

set_option maxRecDepth 100000 in
theorem whole_is (s : ByteArray) (r : Bool) (w : World) (H : Hid (wholeB s = r)) : Calls Try.prog 41 #[.string s] w (Res (.bool r) w) := by
  have h := H.out
  clear H
  unfold wholeB at h
  by_cases h1 : 64 ≤ (s.size : Int)
  · by_cases h2 : (s.size : Int) ≤ 1522
    · have hb : inB 64 s.size 1522 = true := inB_iff.2 ⟨h1, h2⟩
      rw [hb, Bool.true_and] at h
      have HG := Lib.hid h
      clear h hb
      go_enter Try.func41, Try.ntmps41
      go_wp2_with (go_at_call 48; ((with_reducible refine (refGood_is s r _ (by omega) HG).mono ?_); rintro e' w2 ⟨rfl, k2⟩))
      go_ret
      exact ⟨rfl, k2⟩
    · have hb : inB 64 s.size 1522 = false := by unfold inB; exact decide_eq_false (by omega)
      rw [hb, Bool.false_and] at h
      subst h
      clear hb
      go_enter Try.func41, Try.ntmps41
      go_wp2
      go_ret
      exact ⟨rfl, Keep.refl _⟩
  · have hb : inB 64 s.size 1522 = false := by unfold inB; exact decide_eq_false (by omega)
    rw [hb, Bool.false_and] at h
    subst h
    clear hb
    go_enter Try.func41, Try.ntmps41
    go_wp2
    go_ret
    exact ⟨rfl, Keep.refl _⟩
theorem own_k {w : World} {base : Nat} {v : Value} {s : ByteArray} {n : Int} {cuts : List Int} {k : Nat} (h : OwnP w base v (pcsK s n cuts k)) : w.ownsRow base 45 4 v k (cellsP (pcsK s n cuts k)) := by
  unfold OwnP at h
  rwa [pcsK_length] at h
theorem four_at (w : World) (a b c d : Value) (t : TypeId) (g : Nat) (hg : g = w.heap.size) : ∀ j u, [a, b, c, d][j]? = some u → (w.alloc (.cells #[a, b, c, d] t)).cell? ((⟨g, 0, none⟩ : Addr).add j) = some u := by
  subst hg
  exact four_new w a b c d t
set_option maxRecDepth 100000 in
set_option maxHeartbeats 4000000 in
theorem refCut_is (s : ByteArray) (n : Int) (v : Value) (cuts : List Int) (l : List Pc) (E : Int) (w : World) (h : ListAt w v cuts) (HL : Hid (cutL s n cuts = l)) (HE : Hid (cutE s n cuts = E)) :
    Calls Try.prog 14 #[.string s, .int .i64 n, v] w (CutR l E w) := by
  have hl := HL.out
  have he := HE.out
  clear HL HE
  unfold cutL at hl
  unfold cutE at he
  cases hw : wholeB s with
  | false =>
    rw [hw] at hl he
    simp only [Bool.false_and, Bool.false_eq_true, if_false] at hl he
    subst hl he
    have HW := Lib.hid hw
    clear hw
    go_enter Try.func14, Try.ntmps14
    go_wp2_with (go_at_call 41; ((with_reducible refine (whole_is s false _ HW).mono ?_); rintro e' w1 ⟨rfl, k1⟩))
    go_ret2
    exact ⟨_, rfl, OwnP.nil _ _, k1⟩
  | true =>
    have hsz := (wholeB_iff.1 hw).1
    have HW := Lib.hid hw
    rw [hw] at hl he
    simp only [Bool.true_and, if_true] at hl he
    clear hw
    by_cases hn0 : n < 0
    · have hr : inB 0 n 3 = false := by unfold inB; exact decide_eq_false (by omega)
      rw [hr] at hl he
      simp only [Bool.false_and, Bool.false_eq_true, if_false] at hl he
      subst hl he
      clear hr
      go_enter Try.func14, Try.ntmps14
      go_wp2_with (go_at_call 41; ((with_reducible refine (whole_is s true _ HW).mono ?_); rintro e' w1 ⟨rfl, k1⟩))
      go_ret2
      exact ⟨_, rfl, OwnP.nil _ _, k1⟩
    · by_cases hn3 : 3 < n
      · have hr : inB 0 n 3 = false := by unfold inB; exact decide_eq_false (by omega)
        rw [hr] at hl he
        simp only [Bool.false_and, Bool.false_eq_true, if_false] at hl he
        subst hl he
        clear hr
        go_enter Try.func14, Try.ntmps14
        go_wp2_with (go_at_call 41; ((with_reducible refine (whole_is s true _ HW).mono ?_); rintro e' w1 ⟨rfl, k1⟩))
        go_ret2
        exact ⟨_, rfl, OwnP.nil _ _, k1⟩
      · have hr : inB 0 n 3 = true := by unfold inB; exact decide_eq_true (by omega)
        rw [hr] at hl he
        simp only [Bool.true_and, if_true] at hl he
        clear hr
        cases hc : okCuts s.size cuts with
        | false =>
          rw [hc] at hl he
          simp only [Bool.false_eq_true, if_false] at hl he
          subst hl he
          have HC := Lib.hid hc
          clear hc
          go_enter Try.func14, Try.ntmps14
          go_wp2_with (first | (go_at_call 41; ((with_reducible refine (whole_is s true _ HW).mono ?_); rintro e' w1 ⟨rfl, k1⟩)) | (go_at_call 42; ((with_reducible refine (allowed_is _ cuts s false _ hsz (h.keep k1) HC).mono ?_); rintro e' w4 ⟨rfl, h4⟩; subst h4)))
          go_ret2
          exact ⟨_, rfl, OwnP.nil _ _, k1⟩
        | true =>
          rw [hc] at hl he
          simp only [if_true] at hl he
          subst hl he
          have HC := Lib.hid hc
          obtain ⟨i0, hi, hz0, hz1, hz2⟩ := info_parts infoPc
          obtain ⟨len, hlen⟩ : ∃ len, cuts.length = len := ⟨_, rfl⟩
          have hlen24 := okCuts_len hc (by omega)
          rw [hlen] at hlen24
          have HH := Lib.hid h
          clear hc
          go_enter Try.func14, Try.ntmps14
          have hv : (v = .slice none 0 0 ∧ len = 0) ∨ ∃ b off cap, v = .slice (some ⟨b, off, none⟩) len cap ∧ ∀ j, j < len → w.cell? ⟨b, off + j, none⟩ = some (.int .i64 (cuts.getD j 0)) := by
            rcases HH.out with ⟨h1, h2⟩ | ⟨b, off, n', cap, h1, h2, h3, h4⟩
            · exact .inl ⟨h1, by rw [← hlen, h2]; rfl⟩
            · obtain rfl : n' = len := by rw [← hlen, h2]
              exact .inr ⟨b, off, cap, h1, h4⟩
          rcases hv with ⟨rfl, hlz⟩ | ⟨b, off, cap, rfl, hcl⟩
          · go_wp2_with (first | (go_at_call 41; ((with_reducible refine (whole_is s true _ HW).mono ?_); rintro e' w1 ⟨rfl, k1⟩)) | (go_at_call 42; ((with_reducible refine (allowed_is _ cuts s true _ hsz (h.keep k1) HC).mono ?_); rintro e' w4 ⟨rfl, h4⟩; subst h4)))
            go_loopw [8, 9, 10] (fun s8 s9 s10 wr => ∃ (k : Nat), k ≤ len + 1 ∧ s9 = .int .i64 (frI cuts (min k len)) ∧ s10 = .int .i64 k ∧ Hid (OwnP wr w.heap.size s8 (pcsK s n cuts k) ∧ Keep w wr)) (fun _ _ i _ => len + 1 - (intOf i).toNat)
            case atStart => exact ⟨0, by omega, by rw [Nat.zero_min]; rfl, rfl, Lib.hid ⟨OwnP.nil _ _, k1⟩⟩
            case round =>
              obtain ⟨k, hk, rfl, rfl, HR⟩ := hrel
              by_cases hkl1 : k ≤ len
              · rw [Nat.min_eq_left hkl1]
                have hok2 := okTo_less HC.out (show k ≤ cuts.length by omega)
                have hf0 := fr_eq hok2
                have hfl := okTo_fr hok2
                obtain ⟨x, hx⟩ : ∃ x, fr cuts k = x := ⟨_, rfl⟩
                rw [hx] at hf0
                rw [← hf0] at hfl
                rw [← hf0]
                obtain ⟨D0, hD0⟩ : ∃ D, s.extract x s.size = D := ⟨_, rfl⟩
                have hs1 : ∀ wx, (Instr.slice 9 (.string s) (some (.int .i64 x)) none none).run Try.prog wx = .ok (.string D0) wx := fun wx => by rw [← hD0]; exact slice_from s x (by omega) wx
                clear hok2 hfl
                have hlt : ¬ k < len := by omega
                have hk0 : ¬ 0 < k := by omega
                have hkb : ((k : Int) == 0) = true := by simp; omega
                have hkg : ¬ (0 : Int) < (k : Int) := by omega
                have hpc0 : decide (k = 0) = true ∧ cntAt k = 0 := ⟨by simp; omega, by unfold cntAt; rw [if_pos (by omega)]⟩
                have hpc : pcAt s n cuts k = ⟨decide (k = 0), n, cntAt k, s.extract (fr cuts k) s.size⟩ := by unfold pcAt; rw [if_neg (by omega)]
                rw [hpc0.1, hpc0.2, hx, hD0] at hpc
                have HF : Hid (frI cuts (min (k + 1) len) = (x : Int)) := Lib.hid (by rw [Nat.min_eq_right (by omega), show len = k by omega]; exact hf0.symm)
                have hkl : ¬ (k : Int) < (len : Int) := by omega
                have HPC := Lib.hid hpc
                have hu : u8.ownBlock ≠ some wr.heap.size := fun e => by have := (HR.out.1.lt _ e).2; omega
                have HSZ := Lib.hid HR.out.2.size
                clear hpc hpc0 hf0 hx hD0 
                go_wp2_with (first | (at_builtin; refine wpList_append_own_at _ rfl _ _ 35 rfl w.heap.size 45 i0 (.agg #[.bool false, .int .i64 0, .int .i64 0, .string ⟨#[]⟩]) 4 40 Try.underlying35 hi hz0 hz1 hz2 rfl (by decide) u8 k _ rfl ((own_k (HR.out.1.keep ((Keep.refl wr).alloc (.cells #[.bool true, .int .i64 n, .int .i64 0, .string D0] 45)))).alloc _) ⟨_, 0, none⟩ 1 1 [.bool true, .int .i64 n, .int .i64 0, .string D0] rfl rfl (four_at _ _ _ _ _ _ _ (by simp)) (cellsP_cell [⟨true, n, 0, D0⟩]) (by unfold maxLen; omega) (by omega) (by have := HSZ.out; simp; omega) ?_; intro v' w8 hown8 hg8 hnil8 hat8))
                go_roundw
                case rel =>
                  refine ⟨k + 1, by omega, by rw [HF.out], by go_num, Lib.hid ⟨?_, ?_⟩⟩
                  · unfold OwnP
                    rw [pcsK_succ, List.length_append, pcsK_length, cellsP_append, HPC.out]
                    exact hown8
                  · exact ((HR.out.2.byX (((Keep.refl wr).alloc (.cells #[.bool true, .int .i64 n, .int .i64 0, .string D0] 45)).toX wr.heap.size) HSZ.out).alloc _).byRow hg8 (fun j e => (HR.out.1.lt j e).1)
                case measure => simp [intOf]; omega
              · obtain rfl : k = len + 1 := by omega
                go_wp2
                go_ret2
                exact ⟨_, rfl, by unfold pcsL; rw [hlen]; exact HR.out.1, HR.out.2⟩
          · go_wp2_with (first | (go_at_call 41; ((with_reducible refine (whole_is s true _ HW).mono ?_); rintro e' w1 ⟨rfl, k1⟩)) | (go_at_call 42; ((with_reducible refine (allowed_is _ cuts s true _ hsz (h.keep k1) HC).mono ?_); rintro e' w4 ⟨rfl, h4⟩; subst h4)))
            go_loopw [8, 9, 10] (fun s8 s9 s10 wr => ∃ (k : Nat), k ≤ len + 1 ∧ s9 = .int .i64 (frI cuts (min k len)) ∧ s10 = .int .i64 k ∧ Hid (OwnP wr w.heap.size s8 (pcsK s n cuts k) ∧ Keep w wr)) (fun _ _ i _ => len + 1 - (intOf i).toNat)
            case atStart => exact ⟨0, by omega, by rw [Nat.zero_min]; rfl, rfl, Lib.hid ⟨OwnP.nil _ _, k1⟩⟩
            case round =>
              obtain ⟨k, hk, rfl, rfl, HR⟩ := hrel
              by_cases hkl1 : k ≤ len
              · rw [Nat.min_eq_left hkl1]
                have hok2 := okTo_less HC.out (show k ≤ cuts.length by omega)
                have hf0 := fr_eq hok2
                have hfl := okTo_fr hok2
                obtain ⟨x, hx⟩ : ∃ x, fr cuts k = x := ⟨_, rfl⟩
                rw [hx] at hf0
                rw [← hf0] at hfl
                rw [← hf0]
                obtain ⟨D0, hD0⟩ : ∃ D, s.extract x s.size = D := ⟨_, rfl⟩
                have hs1 : ∀ wx, (Instr.slice 9 (.string s) (some (.int .i64 x)) none none).run Try.prog wx = .ok (.string D0) wx := fun wx => by rw [← hD0]; exact slice_from s x (by omega) wx
                clear hok2 hfl
                by_cases hlt : k < len
                · by_cases hk0 : 0 < k
                  · have hkb : ((k : Int) == 0) = false := by simp; omega
                    have hkg : (0 : Int) < (k : Int) := by omega
                    obtain ⟨km, hkm⟩ : ∃ km : Int, (k : Int) - 1 = km := ⟨_, rfl⟩
                    obtain ⟨ck, hck⟩ : ∃ ck : Int, (((k - 1) % 4 : Nat) : Int) = ck := ⟨_, rfl⟩
                    have hpc0 : decide (k = 0) = false ∧ cntAt k = ck := ⟨by simp; omega, by unfold cntAt; rw [if_neg (by omega)]; exact hck⟩
                    have hm1 : wrap64 ((k : Int) - 1) = km := by unfold wrap64; omega
                    have hm2 : IntKind.i64.wrap ((k : Int) - 1) = km := by rw [IntWalk.i64_in _ (by omega)]; exact hkm
                    have hm3 : km.tmod 4 = ck := by rw [Int.tmod_eq_emod_of_nonneg (by omega)]; omega
                    have hm4 : IntKind.i64.wrap ck = ck := IntWalk.i64_in _ (by omega)
                    have hm5 : wrap64 ck = ck := by clear hm4; unfold wrap64; omega
                    have hm6 : IntKind.i64.wrap km = km := IntWalk.i64_in _ (by omega)
                    have hst := okTo_step (okTo_less HC.out (show k + 1 ≤ cuts.length by omega))
                    have hf1 := fr_eq (okTo_less HC.out (show k + 1 ≤ cuts.length by omega))
                    have c4 := HR.out.2.some (hcl k hlt)
                    rw [← frI_succ cuts k] at c4
                    have hpc : pcAt s n cuts k = ⟨decide (k = 0), n, cntAt k, (sealG (s.extract 0 (fr cuts (k + 1))) unf).extract (fr cuts k) (fr cuts (k + 1) + 4)⟩ := by unfold pcAt; rw [if_pos (by omega)]
                    rw [hpc0.1, hpc0.2, hx] at hpc
                    obtain ⟨y, hy⟩ : ∃ y, fr cuts (k + 1) = y := ⟨_, rfl⟩
                    rw [hy] at hf1 hpc
                    rw [← hf0, ← hf1] at hst
                    rw [← hf1] at c4
                    obtain ⟨z, hz⟩ : ∃ z, s.extract 0 y = z := ⟨_, rfl⟩
                    have hzs : z.size = y := by rw [← hz, ByteArray.size_extract]; omega
                    obtain ⟨mk, hmk⟩ : ∃ mk, sealG z unf = mk := ⟨_, rfl⟩
                    have hms : mk.size = y + 4 := by rw [← hmk, sealG_size, hzs]
                    obtain ⟨D, hD⟩ : ∃ D, mk.extract x (y + 4) = D := ⟨_, rfl⟩
                    rw [hz, hmk, hD] at hpc
                    have HMK := Lib.hid hmk
                    have hzb : z.size ≤ 100000 := by omega
                    have hs2 : ∀ wx, (Instr.slice 9 (.string s) none (some (.int .i64 y)) none).run Try.prog wx = .ok (.string z) wx := fun wx => by rw [← hz]; exact slice_to s y (by omega) wx
                    have hs3 : ∀ wx, (Instr.slice 9 (.string mk) (some (.int .i64 x)) none none).run Try.prog wx = .ok (.string D) wx := fun wx => by rw [← hD, ← hms]; exact slice_from mk x (by omega) wx
                    have hbl := cellBlock c4
                    have hbA : ¬ b = wr.heap.size := by omega
                    have hAb : ¬ wr.heap.size = b := by omega
                    have HF : Hid (frI cuts (min (k + 1) len) = (y : Int)) := Lib.hid (by rw [Nat.min_eq_left (by omega)]; exact hf1.symm)
                    have hkl : (k : Int) < (len : Int) := by omega
                    have HPC := Lib.hid hpc
                    have hu : u8.ownBlock ≠ some wr.heap.size := fun e => by have := (HR.out.1.lt _ e).2; omega
                    have HSZ := Lib.hid HR.out.2.size
                    clear hpc hpc0 hf0 hx hD0 hmk hz hD hf1 hy hzs hms hst
                    have hp0 := mg_new wr 45 false n ck D0
                    go_wp2_with (first | (go_at_call 43; ((with_reducible refine (refMark_is z mk _ hzb HMK).mono ?_); rintro e' w5 ⟨rfl, k5⟩; have hp1 := mg_k hp0 k5; obtain ⟨p0, p1, p2, p3⟩ := mg_cells hp1; have pf3 := mg_free hp1 3; have hbl2 : b < w5.heap.size := Nat.lt_trans hbl (mg_lt hp1); have c5 := (Keep.alloc (Keep.refl wr) (.cells #[.bool false, .int .i64 n, .int .i64 ck, .string D0] 45)).trans k5 |>.some c4)) | (at_builtin; refine wpList_append_own_at _ rfl _ _ 35 rfl w.heap.size 45 i0 (.agg #[.bool false, .int .i64 0, .int .i64 0, .string ⟨#[]⟩]) 4 40 Try.underlying35 hi hz0 hz1 hz2 rfl (by decide) u8 k _ rfl ((own_k ((HR.out.1.keep (((Keep.refl wr).alloc (.cells #[.bool false, .int .i64 n, .int .i64 ck, .string D0] 45)).trans k5)).x (keepX_set w5 wr.heap.size 3 (.string D)) hu)).alloc _) ⟨_, 0, none⟩ 1 1 [.bool false, .int .i64 n, .int .i64 ck, .string D] rfl rfl (four_at _ _ _ _ _ _ _ (by simp)) (cellsP_cell [⟨false, n, ck, D⟩]) (by unfold maxLen; omega) (by omega) (by have := HSZ.out; have := mg_lt hp1; simp; omega) ?_; intro v' w8 hown8 hg8 hnil8 hat8))
                    go_roundw
                    case rel =>
                      refine ⟨k + 1, by omega, by rw [HF.out], by go_num, Lib.hid ⟨?_, ?_⟩⟩
                      · unfold OwnP
                        rw [pcsK_succ, List.length_append, pcsK_length, cellsP_append, HPC.out]
                        exact hown8
                      · exact ((HR.out.2.byX (((((Keep.refl wr).alloc (.cells #[.bool false, .int .i64 n, .int .i64 ck, .string D0] 45)).trans k5).toX wr.heap.size).trans (keepX_set w5 wr.heap.size 3 (.string D))) HSZ.out).alloc _).byRow hg8 (fun j e => (HR.out.1.lt j e).1)
                    case measure => simp [intOf]; omega
                  · have hkb : ((k : Int) == 0) = true := by simp; omega
                    have hkg : ¬ (0 : Int) < (k : Int) := by omega
                    have hpc0 : decide (k = 0) = true ∧ cntAt k = 0 := ⟨by simp; omega, by unfold cntAt; rw [if_pos (by omega)]⟩
                    have hst := okTo_step (okTo_less HC.out (show k + 1 ≤ cuts.length by omega))
                    have hf1 := fr_eq (okTo_less HC.out (show k + 1 ≤ cuts.length by omega))
                    have c4 := HR.out.2.some (hcl k hlt)
                    rw [← frI_succ cuts k] at c4
                    have hpc : pcAt s n cuts k = ⟨decide (k = 0), n, cntAt k, (sealG (s.extract 0 (fr cuts (k + 1))) unf).extract (fr cuts k) (fr cuts (k + 1) + 4)⟩ := by unfold pcAt; rw [if_pos (by omega)]
                    rw [hpc0.1, hpc0.2, hx] at hpc
                    obtain ⟨y, hy⟩ : ∃ y, fr cuts (k + 1) = y := ⟨_, rfl⟩
                    rw [hy] at hf1 hpc
                    rw [← hf0, ← hf1] at hst
                    rw [← hf1] at c4
                    obtain ⟨z, hz⟩ : ∃ z, s.extract 0 y = z := ⟨_, rfl⟩
                    have hzs : z.size = y := by rw [← hz, ByteArray.size_extract]; omega
                    obtain ⟨mk, hmk⟩ : ∃ mk, sealG z unf = mk := ⟨_, rfl⟩
                    have hms : mk.size = y + 4 := by rw [← hmk, sealG_size, hzs]
                    obtain ⟨D, hD⟩ : ∃ D, mk.extract x (y + 4) = D := ⟨_, rfl⟩
                    rw [hz, hmk, hD] at hpc
                    have HMK := Lib.hid hmk
                    have hzb : z.size ≤ 100000 := by omega
                    have hs2 : ∀ wx, (Instr.slice 9 (.string s) none (some (.int .i64 y)) none).run Try.prog wx = .ok (.string z) wx := fun wx => by rw [← hz]; exact slice_to s y (by omega) wx
                    have hs3 : ∀ wx, (Instr.slice 9 (.string mk) (some (.int .i64 x)) none none).run Try.prog wx = .ok (.string D) wx := fun wx => by rw [← hD, ← hms]; exact slice_from mk x (by omega) wx
                    have hbl := cellBlock c4
                    have hbA : ¬ b = wr.heap.size := by omega
                    have hAb : ¬ wr.heap.size = b := by omega
                    have HF : Hid (frI cuts (min (k + 1) len) = (y : Int)) := Lib.hid (by rw [Nat.min_eq_left (by omega)]; exact hf1.symm)
                    have hkl : (k : Int) < (len : Int) := by omega
                    have HPC := Lib.hid hpc
                    have hu : u8.ownBlock ≠ some wr.heap.size := fun e => by have := (HR.out.1.lt _ e).2; omega
                    have HSZ := Lib.hid HR.out.2.size
                    clear hpc hpc0 hf0 hx hD0 hmk hz hD hf1 hy hzs hms hst
                    have hp0 := mg_new wr 45 true n 0 D0
                    go_wp2_with (first | (go_at_call 43; ((with_reducible refine (refMark_is z mk _ hzb HMK).mono ?_); rintro e' w5 ⟨rfl, k5⟩; have hp1 := mg_k hp0 k5; obtain ⟨p0, p1, p2, p3⟩ := mg_cells hp1; have pf3 := mg_free hp1 3; have hbl2 : b < w5.heap.size := Nat.lt_trans hbl (mg_lt hp1); have c5 := (Keep.alloc (Keep.refl wr) (.cells #[.bool true, .int .i64 n, .int .i64 0, .string D0] 45)).trans k5 |>.some c4)) | (at_builtin; refine wpList_append_own_at _ rfl _ _ 35 rfl w.heap.size 45 i0 (.agg #[.bool false, .int .i64 0, .int .i64 0, .string ⟨#[]⟩]) 4 40 Try.underlying35 hi hz0 hz1 hz2 rfl (by decide) u8 k _ rfl ((own_k ((HR.out.1.keep (((Keep.refl wr).alloc (.cells #[.bool true, .int .i64 n, .int .i64 0, .string D0] 45)).trans k5)).x (keepX_set w5 wr.heap.size 3 (.string D)) hu)).alloc _) ⟨_, 0, none⟩ 1 1 [.bool true, .int .i64 n, .int .i64 0, .string D] rfl rfl (four_at _ _ _ _ _ _ _ (by simp)) (cellsP_cell [⟨true, n, 0, D⟩]) (by unfold maxLen; omega) (by omega) (by have := HSZ.out; have := mg_lt hp1; simp; omega) ?_; intro v' w8 hown8 hg8 hnil8 hat8))
                    go_roundw
                    case rel =>
                      refine ⟨k + 1, by omega, by rw [HF.out], by go_num, Lib.hid ⟨?_, ?_⟩⟩
                      · unfold OwnP
                        rw [pcsK_succ, List.length_append, pcsK_length, cellsP_append, HPC.out]
                        exact hown8
                      · exact ((HR.out.2.byX (((((Keep.refl wr).alloc (.cells #[.bool true, .int .i64 n, .int .i64 0, .string D0] 45)).trans k5).toX wr.heap.size).trans (keepX_set w5 wr.heap.size 3 (.string D))) HSZ.out).alloc _).byRow hg8 (fun j e => (HR.out.1.lt j e).1)
                    case measure => simp [intOf]; omega
                · by_cases hk0 : 0 < k
                  · have hkb : ((k : Int) == 0) = false := by simp; omega
                    have hkg : (0 : Int) < (k : Int) := by omega
                    obtain ⟨km, hkm⟩ : ∃ km : Int, (k : Int) - 1 = km := ⟨_, rfl⟩
                    obtain ⟨ck, hck⟩ : ∃ ck : Int, (((k - 1) % 4 : Nat) : Int) = ck := ⟨_, rfl⟩
                    have hpc0 : decide (k = 0) = false ∧ cntAt k = ck := ⟨by simp; omega, by unfold cntAt; rw [if_neg (by omega)]; exact hck⟩
                    have hm1 : wrap64 ((k : Int) - 1) = km := by unfold wrap64; omega
                    have hm2 : IntKind.i64.wrap ((k : Int) - 1) = km := by rw [IntWalk.i64_in _ (by omega)]; exact hkm
                    have hm3 : km.tmod 4 = ck := by rw [Int.tmod_eq_emod_of_nonneg (by omega)]; omega
                    have hm4 : IntKind.i64.wrap ck = ck := IntWalk.i64_in _ (by omega)
                    have hm5 : wrap64 ck = ck := by clear hm4; unfold wrap64; omega
                    have hm6 : IntKind.i64.wrap km = km := IntWalk.i64_in _ (by omega)
                    have hpc : pcAt s n cuts k = ⟨decide (k = 0), n, cntAt k, s.extract (fr cuts k) s.size⟩ := by unfold pcAt; rw [if_neg (by omega)]
                    rw [hpc0.1, hpc0.2, hx, hD0] at hpc
                    have HF : Hid (frI cuts (min (k + 1) len) = (x : Int)) := Lib.hid (by rw [Nat.min_eq_right (by omega), show len = k by omega]; exact hf0.symm)
                    have hkl : ¬ (k : Int) < (len : Int) := by omega
                    have HPC := Lib.hid hpc
                    have hu : u8.ownBlock ≠ some wr.heap.size := fun e => by have := (HR.out.1.lt _ e).2; omega
                    have HSZ := Lib.hid HR.out.2.size
                    clear hpc hpc0 hf0 hx hD0 
                    go_wp2_with (first | (at_builtin; refine wpList_append_own_at _ rfl _ _ 35 rfl w.heap.size 45 i0 (.agg #[.bool false, .int .i64 0, .int .i64 0, .string ⟨#[]⟩]) 4 40 Try.underlying35 hi hz0 hz1 hz2 rfl (by decide) u8 k _ rfl ((own_k (HR.out.1.keep ((Keep.refl wr).alloc (.cells #[.bool false, .int .i64 n, .int .i64 ck, .string D0] 45)))).alloc _) ⟨_, 0, none⟩ 1 1 [.bool false, .int .i64 n, .int .i64 ck, .string D0] rfl rfl (four_at _ _ _ _ _ _ _ (by simp)) (cellsP_cell [⟨false, n, ck, D0⟩]) (by unfold maxLen; omega) (by omega) (by have := HSZ.out; simp; omega) ?_; intro v' w8 hown8 hg8 hnil8 hat8))
                    go_roundw
                    case rel =>
                      refine ⟨k + 1, by omega, by rw [HF.out], by go_num, Lib.hid ⟨?_, ?_⟩⟩
                      · unfold OwnP
                        rw [pcsK_succ, List.length_append, pcsK_length, cellsP_append, HPC.out]
                        exact hown8
                      · exact ((HR.out.2.byX (((Keep.refl wr).alloc (.cells #[.bool false, .int .i64 n, .int .i64 ck, .string D0] 45)).toX wr.heap.size) HSZ.out).alloc _).byRow hg8 (fun j e => (HR.out.1.lt j e).1)
                    case measure => simp [intOf]; omega
                  · have hkb : ((k : Int) == 0) = true := by simp; omega
                    have hkg : ¬ (0 : Int) < (k : Int) := by omega
                    have hpc0 : decide (k = 0) = true ∧ cntAt k = 0 := ⟨by simp; omega, by unfold cntAt; rw [if_pos (by omega)]⟩
                    have hpc : pcAt s n cuts k = ⟨decide (k = 0), n, cntAt k, s.extract (fr cuts k) s.size⟩ := by unfold pcAt; rw [if_neg (by omega)]
                    rw [hpc0.1, hpc0.2, hx, hD0] at hpc
                    have HF : Hid (frI cuts (min (k + 1) len) = (x : Int)) := Lib.hid (by rw [Nat.min_eq_right (by omega), show len = k by omega]; exact hf0.symm)
                    have hkl : ¬ (k : Int) < (len : Int) := by omega
                    have HPC := Lib.hid hpc
                    have hu : u8.ownBlock ≠ some wr.heap.size := fun e => by have := (HR.out.1.lt _ e).2; omega
                    have HSZ := Lib.hid HR.out.2.size
                    clear hpc hpc0 hf0 hx hD0 
                    go_wp2_with (first | (at_builtin; refine wpList_append_own_at _ rfl _ _ 35 rfl w.heap.size 45 i0 (.agg #[.bool false, .int .i64 0, .int .i64 0, .string ⟨#[]⟩]) 4 40 Try.underlying35 hi hz0 hz1 hz2 rfl (by decide) u8 k _ rfl ((own_k (HR.out.1.keep ((Keep.refl wr).alloc (.cells #[.bool true, .int .i64 n, .int .i64 0, .string D0] 45)))).alloc _) ⟨_, 0, none⟩ 1 1 [.bool true, .int .i64 n, .int .i64 0, .string D0] rfl rfl (four_at _ _ _ _ _ _ _ (by simp)) (cellsP_cell [⟨true, n, 0, D0⟩]) (by unfold maxLen; omega) (by omega) (by have := HSZ.out; simp; omega) ?_; intro v' w8 hown8 hg8 hnil8 hat8))
                    go_roundw
                    case rel =>
                      refine ⟨k + 1, by omega, by rw [HF.out], by go_num, Lib.hid ⟨?_, ?_⟩⟩
                      · unfold OwnP
                        rw [pcsK_succ, List.length_append, pcsK_length, cellsP_append, HPC.out]
                        exact hown8
                      · exact ((HR.out.2.byX (((Keep.refl wr).alloc (.cells #[.bool true, .int .i64 n, .int .i64 0, .string D0] 45)).toX wr.heap.size) HSZ.out).alloc _).byRow hg8 (fun j e => (HR.out.1.lt j e).1)
                    case measure => simp [intOf]; omega
              · obtain rfl : k = len + 1 := by omega
                go_wp2
                go_ret2
                exact ⟨_, rfl, by unfold pcsL; rw [hlen]; exact HR.out.1, HR.out.2⟩
end Go.Proofs.Ytgejpbgpgklimaa
