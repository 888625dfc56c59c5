/- What Check and checkAll of the package rat return, and Right, both and Check of the reference. -/
import Derived.Test.YtiibpdameldblaaDoorWithin
import Derived.Deep.RegionHeld3
namespace Go.Proofs.YtiibpdameldblaaDoor
open Go Go.RowKit

theorem grownDrewN {W w : World} (h : Grown W w) (n : Nat) : Grown W (w.drewN n) := by
  induction n generalizing w with
  | zero => exact h
  | succ n ih => exact ih h.drew

theorem okR_cases (n d : Int) : okR n d = (decide (1 ≤ d) && ((inW 1073741824 n && inW 1073741824 d) && decide (gcdI n d = 1))) := by
  rw [Bool.eq_iff_iff, okR_iff]
  simp [inW_iff]
  omega

theorem gcdS_small {n d : Int} (h1 : inW 1073741824 n = true) (h2 : inW 1073741824 d = true) : gcdS n d = gcdI n d := by
  rw [inW_iff] at h1 h2
  unfold gcdS gcdI
  rw [if_pos ⟨(inB_iff n).2 (by omega), (inB_iff d).2 (by omega)⟩]

set_option maxHeartbeats 1000000 in
theorem check_any (n d : Int) (w : World) (hT : Tab w) : Calls Tryd.prog 12 #[.agg #[.int .i64 n, .int .i64 d]] w (Num (checkS n d) w) := by
  have HT := Lib.hid hT
  clear hT
  unfold checkS
  by_cases h1 : d < 1
  · have e : okR n d = false := by
      rw [okR_cases, show decide (1 ≤ d) = false by simp; omega]; rfl
    rw [e, if_neg (by simp)]
    clear e
    go_enter Tryd.func12, Tryd.ntmps12
    go_wp2
    go_ret
    exact ⟨rfl, by go_grown⟩
  · have e1 : decide (1 ≤ d) = true := by simp; omega
    cases h2 : (inW 1073741824 n && inW 1073741824 d) with
    | false =>
      have e : okR n d = false := by
        rw [okR_cases, e1, h2]; rfl
      rw [e, if_neg (by simp)]
      have H := Lib.hid h2
      clear e e1 h2
      go_enter Tryd.func12, Tryd.ntmps12
      go_wp2_with (go_at_call 37; ((with_reducible refine (within2 1073741824 n d _ _ (by omega) false H.out (by simp [go_sem])).mono ?_); rintro e w' ⟨rfl, rfl⟩))
      go_ret
      exact ⟨rfl, by go_grown⟩
    | true =>
      have h3 := Bool.and_eq_true_iff.1 h2
      have eg := gcdS_small h3.1 h3.2
      have HO : Hid (okR n d = decide (gcdI n d = 1)) := Lib.hid (by rw [okR_cases, e1, h2]; rfl)
      have H := Lib.hid h2
      have HG := Lib.hid eg
      obtain ⟨g, hg⟩ : ∃ g, gcdI n d = g := ⟨_, rfl⟩
      have HGI := Lib.hid hg
      clear e1 h2 h3 eg hg
      by_cases h : g = 1
      · subst h
        rw [HO.out, HGI.out, if_pos (by simp)]
        go_enter Tryd.func12, Tryd.ntmps12
        go_wp2_with (first | (go_at_call 37; ((with_reducible refine (within2 1073741824 n d _ _ (by omega) true H.out (by simp [go_sem])).mono ?_); rintro e w' ⟨rfl, rfl⟩)) | (go_at_call 42; ((with_reducible refine (gcd_any n d _ (HT.out.grown (by go_grown))).mono ?_); rw [HG.out, HGI.out]; rintro e w1 ⟨rfl, hg1⟩)))
        go_ret
        exact ⟨rfl, grownTrans (by go_grown) hg1⟩
      · have h' : (g == 1) = false := by simp [h]
        have h'' : (g != 1) = true := by simp [h]
        rw [HO.out, HGI.out, if_neg (by simp [h])]
        go_enter Tryd.func12, Tryd.ntmps12
        go_wp2_with (first | (go_at_call 37; ((with_reducible refine (within2 1073741824 n d _ _ (by omega) true H.out (by simp [go_sem])).mono ?_); rintro e w' ⟨rfl, rfl⟩)) | (go_at_call 42; ((with_reducible refine (gcd_any n d _ (HT.out.grown (by go_grown))).mono ?_); rw [HG.out, HGI.out]; rintro e w1 ⟨rfl, hg1⟩)))
        go_ret
        exact ⟨rfl, grownTrans (by go_grown) hg1⟩

theorem gcdI_nat (n d A : Int) (hd : 0 ≤ d) (hA : (n.natAbs : Int) = A) : (A.toNat.gcd d.toNat : Int) = gcdI n d := by
  unfold gcdI
  rw [← hA, Int.toNat_natCast, show d.toNat = d.natAbs by omega]

set_option maxHeartbeats 1000000 in
theorem right_any (n d : Int) (w : World) : Calls Tryd.prog 41 #[.agg #[.int .i64 n, .int .i64 d]] w fun e w' => e = .returned (.bool (okR n d)) ∧ Grown w w' := by
  by_cases h : 1 ≤ d ∧ d ≤ 1073741824 ∧ -1073741824 ≤ n ∧ n ≤ 1073741824
  · obtain ⟨h1, h2, h3, h4⟩ := h
    have HO : Hid (okR n d = decide (gcdI n d = 1)) := Lib.hid (by rw [Bool.eq_iff_iff, okR_iff]; simp [h1, h2, h3, h4])
    obtain ⟨A, hA⟩ : ∃ A, (n.natAbs : Int) = A := ⟨_, rfl⟩
    have A0 : 0 ≤ A ∧ A ≤ 1073741824 := by omega
    obtain ⟨g, hg⟩ : ∃ g, gcdI n d = g := ⟨_, rfl⟩
    have HGI := Lib.hid hg
    have HG := Lib.hid ((gcdI_nat n d A (by omega) hA).trans hg)
    have HA := Lib.hid hA
    clear hA hg
    by_cases h : g = 1
    · have k : (g == 1) = true := by simp [h]
      have HK : Hid (okR n d = true) := Lib.hid (by rw [HO.out, HGI.out, h]; rfl)
      clear h
      go_enter Tryd.func41, Tryd.ntmps41
      go_wp2_with fail
      go_quiet ((first | (go_at_call 40; exact Calls.quiet_of_same (refabs_any n _ (by omega) A HA)) | (go_at_call 39; exact Calls.quiet_of (refgcd_any A d g _ (by omega) (by omega) HG))))
      go_wp2_with fail
      go_ret
      exact ⟨by rw [HK.out]; rfl, grownDrewN (by go_grown) _⟩
    · have k : (g == 1) = false := by simp [h]
      have HK : Hid (okR n d = false) := Lib.hid (by rw [HO.out, HGI.out]; simp [h])
      clear h
      go_enter Tryd.func41, Tryd.ntmps41
      go_wp2_with fail
      go_quiet ((first | (go_at_call 40; exact Calls.quiet_of_same (refabs_any n _ (by omega) A HA)) | (go_at_call 39; exact Calls.quiet_of (refgcd_any A d g _ (by omega) (by omega) HG))))
      go_wp2_with fail
      go_ret
      exact ⟨by rw [HK.out]; rfl, grownDrewN (by go_grown) _⟩
  · have HK : Hid (okR n d = false) := Lib.hid (by
      cases e : okR n d with
      | false => rfl
      | true => rw [okR_iff] at e; exact absurd ⟨e.1, e.2.1, e.2.2.1, e.2.2.2.1⟩ h)
    by_cases h1 : 1 ≤ d
    · by_cases h2 : d ≤ 1073741824
      · by_cases h3 : -1073741824 ≤ n
        · have h4 : ¬ n ≤ 1073741824 := fun k => h ⟨h1, h2, h3, k⟩
          have d1 : decide (1 ≤ d) = true := by simp; omega
          have d2 : decide (d ≤ 1073741824) = true := by simp; omega
          have d3 : decide (-1073741824 ≤ n) = true := by simp; omega
          have d4 : decide (n ≤ 1073741824) = false := by simp; omega
          clear h h1 h2 h3 h4
          go_enter Tryd.func41, Tryd.ntmps41
          go_wp2_with fail
          go_quiet (fail)
          go_wp2_with fail
          go_ret
          exact ⟨by rw [HK.out]; rfl, grownDrewN (by go_grown) _⟩
        · have d1 : decide (1 ≤ d) = true := by simp; omega
          have d2 : decide (d ≤ 1073741824) = true := by simp; omega
          have d3 : decide (-1073741824 ≤ n) = false := by simp; omega
          clear h h1 h2 h3
          go_enter Tryd.func41, Tryd.ntmps41
          go_wp2_with fail
          go_quiet (fail)
          go_wp2_with fail
          go_ret
          exact ⟨by rw [HK.out]; rfl, grownDrewN (by go_grown) _⟩
      · have d1 : decide (1 ≤ d) = true := by simp; omega
        have d2 : decide (d ≤ 1073741824) = false := by simp; omega
        clear h h1 h2
        go_enter Tryd.func41, Tryd.ntmps41
        go_wp2_with fail
        go_quiet (fail)
        go_wp2_with fail
        go_ret
        exact ⟨by rw [HK.out]; rfl, grownDrewN (by go_grown) _⟩
    · have d1 : decide (1 ≤ d) = false := by simp; omega
      clear h h1
      go_enter Tryd.func41, Tryd.ntmps41
      go_wp2_with fail
      go_quiet (fail)
      go_wp2_with fail
      go_ret
      exact ⟨by rw [HK.out]; rfl, grownDrewN (by go_grown) _⟩

end Go.Proofs.YtiibpdameldblaaDoor
