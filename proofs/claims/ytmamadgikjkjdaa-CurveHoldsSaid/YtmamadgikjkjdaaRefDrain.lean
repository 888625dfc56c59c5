/- What Drain of the reference returns: what the program's does. -/
import Derived.Test.YtmamadgikjkjdaaRefLeast
import Derived.Test.YtmamadgikjkjdaaRefDelay
import Derived.Test.YtmamadgikjkjdaaDrain
import Derived.Test.YtmamadgikjkjdaaMergeM
namespace Go.Proofs.Ytmamadgikjkjdaa
open Go Go.RowKit

/-- The latest of m frames' own departures, from frame j down. -/
def lastS (a s : Nat → Int) (R L : Int) (j : Nat) : Nat → Int
  | 0 => 0
  | m + 1 => max (lastS a s R L j m) (a (j - m) + L + ceilD ((psum s (j + 1) - psum s (j - m)) * 1048576) R)
theorem ceilD_max {x y R : Int} (hR : 1 ≤ R) : ceilD (max x y) R = max (ceilD x R) (ceilD y R) := by
  rcases Int.le_total x y with h | h
  · have := ceilD_mono (show 0 < R by omega) h
    rw [show max x y = y by omega]; omega
  · have := ceilD_mono (show 0 < R by omega) h
    rw [show max x y = x by omega]; omega
theorem ceilD_at {t S n : Int} (hS : 0 < S) : ceilD (t * S + n) S = t + ceilD n S := by
  unfold ceilD
  have e : -(t * S + n) = -n + (-t) * S := by rw [Int.neg_mul]; omega
  rw [e, Int.add_mul_ediv_right _ _ (by omega)]
  omega
theorem lastS_inv {a s : Nat → Int} {R L : Int} {j : Nat} (hR : 1 ≤ R) (hL : 0 ≤ L) (hd : ∀ k, k ≤ j + 1 → 0 ≤ doneS a s R k) : ∀ m, m ≤ j + 1 → L + ceilD (doneS a s R (j + 1)) R = max (lastS a s R L j m) (L + ceilD (max 0 (doneS a s R (j + 1 - m)) + (psum s (j + 1) - psum s (j + 1 - m)) * 1048576) R)
  | 0, _ => by
    have h := hd (j + 1) (by omega)
    have h2 := ceilD_nonneg (n := doneS a s R (j + 1)) (d := R) (by omega) h
    simp only [lastS, Nat.sub_zero, Int.sub_self, Int.zero_mul, Int.add_zero]
    rw [show max 0 (doneS a s R (j + 1)) = doneS a s R (j + 1) by omega]
    omega
  | m + 1, hm => by
    have ih := lastS_inv hR hL hd m (by omega)
    obtain ⟨k, hk⟩ : ∃ k, j - m = k := ⟨_, rfl⟩
    have e1 : j + 1 - m = k + 1 := by omega
    have e2 : j + 1 - (m + 1) = k := by omega
    rw [e1] at ih
    rw [e2]
    simp only [lastS, hk]
    have hd1 := hd (k + 1) (by omega)
    have eD : doneS a s R (k + 1) = max (max 0 (doneS a s R k)) (a k * R) + s k * 1048576 := rfl
    have eP : psum s (k + 1) = psum s k + s k := rfl
    rw [show max 0 (doneS a s R (k + 1)) = doneS a s R (k + 1) by omega, eD, eP] at ih
    obtain ⟨N, hN⟩ : ∃ N, (psum s (j + 1) - psum s k) * 1048576 = N := ⟨_, rfl⟩
    have e3 : max (max 0 (doneS a s R k)) (a k * R) + s k * 1048576 + (psum s (j + 1) - (psum s k + s k)) * 1048576 = max (max 0 (doneS a s R k) + N) (a k * R + N) := by omega
    rw [e3, ceilD_max hR, ceilD_at (by omega)] at ih
    rw [hN]
    omega
theorem lastS_end {a s : Nat → Int} {R L : Int} {j : Nat} (hR : 1 ≤ R) (hL : 0 ≤ L) (h0 : 0 ≤ a 0) (hd : ∀ k, k ≤ j + 1 → 0 ≤ doneS a s R k) : lastS a s R L j (j + 1) = L + ceilD (doneS a s R (j + 1)) R := by
  have h := lastS_inv hR hL hd (j + 1) (Nat.le_refl _)
  have e1 : j + 1 - (j + 1) = 0 := by omega
  have e2 : j - j = 0 := by omega
  rw [e1] at h
  have e3 : doneS a s R 0 = 0 := rfl
  rw [e3, show max (0 : Int) 0 + (psum s (j + 1) - psum s 0) * 1048576 = (psum s (j + 1) - psum s 0) * 1048576 by omega] at h
  have e4 : lastS a s R L j (j + 1) = max (lastS a s R L j j) (a 0 + L + ceilD ((psum s (j + 1) - psum s 0) * 1048576) R) := by show max _ _ = _; rw [e2]
  omega
theorem lastS_bd {a s : Nat → Int} {R L : Int} {j : Nat} {B : Int} (hB : 0 ≤ B) (h : ∀ m, m ≤ j → a (j - m) + L + ceilD ((psum s (j + 1) - psum s (j - m)) * 1048576) R ≤ B) : ∀ m, m ≤ j + 1 → 0 ≤ lastS a s R L j m ∧ lastS a s R L j m ≤ B
  | 0, _ => by simp [lastS, hB]
  | m + 1, hm => by
    have ih := lastS_bd hB h m (by omega)
    have := h m (by omega)
    simp only [lastS]
    omega

set_option maxRecDepth 100000 in
set_option maxHeartbeats 8000000 in
theorem refDrain_slice (a0 : Option Addr) (n cap : Nat) (l : List (Int × Int)) (R L : Int) (V : List Int × Int) (w : World) (h : Hid (RowAt w (.slice a0 n cap) l)) (H : Hid (drainR l R L = V)) :
    Calls Try.prog 41 #[.slice a0 n cap, .agg #[.int .i64 R, .int .i64 L]] w (Ints V w) := by
  obtain ⟨i0, hi, hz0, hz1, hz2⟩ := info_parts infoInt
  have k0 := Keep.alloc (Keep.refl w) (.cells #[.int .i64 R, .int .i64 L] 54)
  have HR0 := Lib.hid (h.out.keep k0)
  have hd := H.out
  unfold drainR at hd
  cases ht : okT l with
  | false =>
    rw [ht] at hd
    obtain rfl : ([], 131) = V := hd
    have HT := Lib.hid ht
    clear H ht
    go_enter Try.func41, Try.ntmps41
    go_wp2_with (go_at_call 66; ((with_reducible refine (rightTrace_is (.slice a0 n cap) l false _ HR0 HT).mono ?_); rintro _ w1 ⟨rfl, k1⟩))
    go_ret2
    exact ⟨_, rfl, Or.inl ⟨rfl, rfl⟩, k0.trans k1⟩
  | true =>
    rw [ht, if_pos rfl] at hd
    have HT := Lib.hid ht
    cases hsv : okSv R L with
    | false =>
      rw [hsv] at hd
      obtain rfl : ([], 140) = V := hd
      have HS := Lib.hid hsv
      clear H ht hsv
      go_enter Try.func41, Try.ntmps41
      go_wp2_with (first | (go_at_call 66; ((with_reducible refine (rightTrace_is (.slice a0 n cap) l true _ HR0 HT).mono ?_); rintro _ w1 ⟨rfl, k1⟩; have c0 := k1.some (b := w.heap.size) (o := 0) (v := .int .i64 R) (by simp [go_sem]); have c1 := k1.some (b := w.heap.size) (o := 1) (v := .int .i64 L) (by simp [go_sem]))) | (go_at_call 55; ((with_reducible refine (rightSv_is R L false _ HS).mono ?_); rintro _ w2 ⟨rfl, k2⟩)))
      go_ret2
      exact ⟨_, rfl, Or.inl ⟨rfl, rfl⟩, (k0.trans k1).trans k2⟩
    | true =>
      rw [hsv, if_pos rfl] at hd
      have HS := Lib.hid hsv
      have sv := okSv_iff.1 hsv
      have hR : 1 ≤ R ∧ R ≤ 2097152 := ⟨sv.1, sv.2.1⟩
      have HV := Lib.hid hd
      have HK := Lib.hid (okT_iff.1 ht)
      have hrow := row_cells h.out
      have HL := Lib.hid hrow.1
      have HC := Lib.hid hrow.2
      have hn : n ≤ 200 := by rw [← hrow.1]; exact HK.out.1
      clear hd H ht hsv hrow h
      go_enter Try.func41, Try.ntmps41
      go_wp2_with (first | (go_at_call 66; ((with_reducible refine (rightTrace_is (.slice a0 n cap) l true _ HR0 HT).mono ?_); rintro _ w1 ⟨rfl, k1⟩; have c0 := k1.some (b := w.heap.size) (o := 0) (v := .int .i64 R) (by simp [go_sem]); have c1 := k1.some (b := w.heap.size) (o := 1) (v := .int .i64 L) (by simp [go_sem]))) | (go_at_call 55; ((with_reducible refine (rightSv_is R L true _ HS).mono ?_); rintro _ w2 ⟨rfl, k2⟩; have c0 := k2.some c0; have c1 := k2.some c1)))
      have KM := Lib.hid ((k0.trans k1).trans k2)
      clear k0 k1 k2 HR0
      go_loopw [6, 7] (fun s6 s7 wr => ∃ j : Nat, j ≤ n ∧ s7 = .int .i64 j ∧ Hid (wr.ownsRow w2.heap.size 3 1 s6 j ((drainK (atL l) (szL l) R L j).map (Value.int .i64)) ∧ Keep w2 wr)) (fun _ i _ => n - (intOf i).toNat)
      case atStart => exact ⟨0, Nat.zero_le _, rfl, Lib.hid ⟨World.ownsRow_nil _ _ _ _, Keep.refl _⟩⟩
      case round =>
        obtain ⟨j, hj, rfl, HR⟩ := hrel
        by_cases hlt : j < n
        · have hlt' : (j : Int) < (n : Int) := by omega
          obtain ⟨b, off, rfl, -, -⟩ := HC.out j hlt
          have c0 := HR.out.2.some c0
          have c1 := HR.out.2.some c1
          have hcb := cellBlock c0
          obtain ⟨Wj, hWj⟩ : ∃ Wj, wr = Wj := ⟨_, rfl⟩
          rw [hWj] at HR c0 c1 hcb
          try rw [hWj]
          clear hWj
          go_wp2
          go_loopw [8, 9, 10] (fun s8 s9 s10 wi => ∃ (m : Nat) (u sm : Int), m ≤ j + 1 ∧ s10 = .int .i64 ((j : Int) - m) ∧ s9 = .int .i64 sm ∧ s8 = .int .i64 u ∧ Hid (lastS (atL l) (szL l) R L j m = u ∧ psum (szL l) (j + 1) - psum (szL l) (j + 1 - m) = sm ∧ Keep Wj wi)) (fun _ _ i _ => (intOf i + 1).toNat)
          case atStart => exact ⟨0, 0, 0, by omega, by simp, rfl, rfl, Lib.hid ⟨rfl, by simp, Keep.refl _⟩⟩
          case round =>
            obtain ⟨m, u, sm, hm, rfl, rfl, rfl, HI⟩ := hrel
            by_cases hmj : m ≤ j
            · obtain ⟨k, hk⟩ : ∃ k : Nat, j - m = k := ⟨_, rfl⟩
              have ek : ((j : Int) - (m : Int)) = (k : Int) := by omega
              rw [ek]
              obtain ⟨b', off', eab, d0, d1⟩ := HC.out k (by omega)
              cases eab
              have KW := HI.out.2.2
              have d0 := KW.some (HR.out.2.some (KM.out.some d0))
              have d1 := KW.some (HR.out.2.some (KM.out.some d1))
              have c0 := KW.some c0
              have c1 := KW.some c1
              have bd := okSteps_bd HK.out.2 k (by rw [HL.out]; omega)
              have pm : ∀ j, j ≤ l.length → ∀ i, i ≤ j → psum (szL l) i ≤ psum (szL l) j := psum_mono (fun i hi => by have := okSteps_bd HK.out.2 i hi; omega)
              have pb := psum_bd HK.out.2 (j + 1) (by rw [HL.out]; omega)
              have pb0 := psum_bd HK.out.2 k (by rw [HL.out]; omega)
              have pm1 := pm (j + 1) (by rw [HL.out]; omega) (k + 1) (by omega)
              have hl := HI.out.1
              have hs := HI.out.2.1
              have e1 : j + 1 - m = k + 1 := by omega
              have e2 : j + 1 - (m + 1) = k := by omega
              have eP : psum (szL l) (k + 1) = psum (szL l) k + szL l k := rfl
              rw [e1] at hs
              have hl' : lastS (atL l) (szL l) R L j (m + 1) = max (lastS (atL l) (szL l) R L j m) (atL l k + L + ceilD ((psum (szL l) (j + 1) - psum (szL l) k) * 1048576) R) := by simp only [lastS, hk]
              obtain ⟨x, hx⟩ : ∃ x, atL l k = x := ⟨_, rfl⟩
              obtain ⟨y, hy⟩ : ∃ y, szL l k = y := ⟨_, rfl⟩
              obtain ⟨sm', hsm'⟩ : ∃ sm', sm + y = sm' := ⟨_, rfl⟩
              have hs' : psum (szL l) (j + 1) - psum (szL l) k = sm' := by omega
              rw [hx] at bd d0
              rw [hy] at bd d1
              rw [hs', hx, hl] at hl'
              have bsm : 0 ≤ sm ∧ sm ≤ 209715200 := by omega
              have bsm' : 0 ≤ sm' ∧ sm' ≤ 209715200 := by omega
              obtain ⟨SU, hSU⟩ : ∃ SU, sm' * 1048576 = SU := ⟨_, rfl⟩
              rw [hSU] at hl'
              have bSU : 0 ≤ SU ∧ SU ≤ 219902325555200 := by omega
              obtain ⟨q, hq⟩ : ∃ q, ceilD SU R = q := ⟨_, rfl⟩
              rw [hq] at hl'
              have hq0 : 0 ≤ q := by rw [← hq]; exact ceilD_nonneg (by omega) bSU.1
              have hq1 : q ≤ SU := by rw [← hq]; exact ceilD_le (by omega) (by have : SU * 1 ≤ SU * R := Int.mul_le_mul_of_nonneg_left hR.1 bSU.1; omega)
              obtain ⟨u', hu'⟩ : ∃ u', max u (x + L + q) = u' := ⟨_, rfl⟩
              rw [hu'] at hl'
              have HU := Lib.hid hu'
              have HQ := Lib.hid hq
              have HSU := Lib.hid hSU
              have HN := Lib.hid (⟨hl', by rw [e2]; exact hs', KW⟩ : lastS (atL l) (szL l) R L j (m + 1) = u' ∧ psum (szL l) (j + 1) - psum (szL l) (j + 1 - (m + 1)) = sm' ∧ Keep Wj wr)
              have es : IntKind.i64.wrap (sm + y) = sm' := by rw [hsm']; exact IntWalk.i64_in _ (by omega)
              have hbk := cellBlock d0
              have hck := cellBlock c0
              clear hl hs hl' hs' hx hy hq hSU hu' pm pm1 pb pb0 eP e1 e2 HI KW
              go_upto_region 14 with fail
              try rw [hsm']
              clear hsm'
              refine region_lin (W0 := wr) (listF [fun v ww => v = .int .i64 u, fun v ww => v = .slice (some ⟨b, off, none⟩) n cap, fun v ww => v = .int .i64 (k : Int), fun v ww => v = .pointer (some ⟨b, off + k * 2, none⟩), fun v ww => v = .pointer (some ⟨b, off + k * 2, none⟩), fun v ww => v = .int .i64 x, fun v ww => v = .pointer (some ⟨w.heap.size, 1, none⟩), fun v ww => v = .int .i64 L, fun v ww => v = .int .i64 (x + L), fun v ww => v = .int .i64 sm', fun v ww => v = .int .i64 SU, fun v ww => v = .pointer (some ⟨w.heap.size, 0, none⟩), fun v ww => v = .int .i64 R, fun v ww => v = .int .i64 q, fun v ww => v = .int .i64 (x + L + q), fun v ww => v = .int .i64 u', fun v ww => v = .int .i64 u']) (listF_stable _ ⟨fun _ _ _ _ h => h, fun _ _ _ _ h => h, fun _ _ _ _ h => h, fun _ _ _ _ h => h, fun _ _ _ _ h => h, fun _ _ _ _ h => h, fun _ _ _ _ h => h, fun _ _ _ _ h => h, fun _ _ _ _ h => h, fun _ _ _ _ h => h, fun _ _ _ _ h => h, fun _ _ _ _ h => h, fun _ _ _ _ h => h, fun _ _ _ _ h => h, fun _ _ _ _ h => h, fun _ _ _ _ h => h, fun _ _ _ _ h => h, trivial⟩) (by kernel_rfl) (by kernel_rfl) (by kernel_rfl) (by kernel_rfl) (Keep.refl _) ?done14 ?steps14
              case done14 =>
                intro T14 wz14 hJ
                obtain ⟨x0, t0, f0⟩ := hJ.fact 0 35 (by decide) (by kernel_rfl)
                obtain rfl : x0 = .int .i64 u := f0
                obtain ⟨x1, t1, f1⟩ := hJ.fact 1 36 (by decide) (by kernel_rfl)
                obtain rfl : x1 = .slice (some ⟨b, off, none⟩) n cap := f1
                obtain ⟨x2, t2, f2⟩ := hJ.fact 2 37 (by decide) (by kernel_rfl)
                obtain rfl : x2 = .int .i64 (k : Int) := f2
                obtain ⟨x3, t3, f3⟩ := hJ.fact 3 38 (by decide) (by kernel_rfl)
                obtain rfl : x3 = .pointer (some ⟨b, off + k * 2, none⟩) := f3
                obtain ⟨x4, t4, f4⟩ := hJ.fact 4 39 (by decide) (by kernel_rfl)
                obtain rfl : x4 = .pointer (some ⟨b, off + k * 2, none⟩) := f4
                obtain ⟨x5, t5, f5⟩ := hJ.fact 5 40 (by decide) (by kernel_rfl)
                obtain rfl : x5 = .int .i64 x := f5
                obtain ⟨x6, t6, f6⟩ := hJ.fact 6 41 (by decide) (by kernel_rfl)
                obtain rfl : x6 = .pointer (some ⟨w.heap.size, 1, none⟩) := f6
                obtain ⟨x7, t7, f7⟩ := hJ.fact 7 42 (by decide) (by kernel_rfl)
                obtain rfl : x7 = .int .i64 L := f7
                obtain ⟨x8, t8, f8⟩ := hJ.fact 8 43 (by decide) (by kernel_rfl)
                obtain rfl : x8 = .int .i64 (x + L) := f8
                obtain ⟨x9, t9, f9⟩ := hJ.fact 9 44 (by decide) (by kernel_rfl)
                obtain rfl : x9 = .int .i64 sm' := f9
                obtain ⟨x10, t10, f10⟩ := hJ.fact 10 45 (by decide) (by kernel_rfl)
                obtain rfl : x10 = .int .i64 SU := f10
                obtain ⟨x11, t11, f11⟩ := hJ.fact 11 46 (by decide) (by kernel_rfl)
                obtain rfl : x11 = .pointer (some ⟨w.heap.size, 0, none⟩) := f11
                obtain ⟨x12, t12, f12⟩ := hJ.fact 12 47 (by decide) (by kernel_rfl)
                obtain rfl : x12 = .int .i64 R := f12
                obtain ⟨x13, t13, f13⟩ := hJ.fact 13 48 (by decide) (by kernel_rfl)
                obtain rfl : x13 = .int .i64 q := f13
                obtain ⟨x14, t14, f14⟩ := hJ.fact 14 49 (by decide) (by kernel_rfl)
                obtain rfl : x14 = .int .i64 (x + L + q) := f14
                obtain ⟨x15, t15, f15⟩ := hJ.fact 15 50 (by decide) (by kernel_rfl)
                obtain rfl : x15 = .int .i64 u' := f15
                obtain ⟨x16, t16, f16⟩ := hJ.fact 16 8 (by decide) (by kernel_rfl)
                obtain rfl : x16 = .int .i64 u' := f16
                have hfr := hJ.frame [(35, .int .i64 u), (36, .slice (some ⟨b, off, none⟩) n cap), (37, .int .i64 (k : Int)), (38, .pointer (some ⟨b, off + k * 2, none⟩)), (39, .pointer (some ⟨b, off + k * 2, none⟩)), (40, .int .i64 x), (41, .pointer (some ⟨w.heap.size, 1, none⟩)), (42, .int .i64 L), (43, .int .i64 (x + L)), (44, .int .i64 sm'), (45, .int .i64 SU), (46, .pointer (some ⟨w.heap.size, 0, none⟩)), (47, .int .i64 R), (48, .int .i64 q), (49, .int .i64 (x + L + q)), (50, .int .i64 u'), (8, .int .i64 u')] (by simp [t0, t1, t2, t3, t4, t5, t6, t7, t8, t9, t10, t11, t12, t13, t14, t15, t16]) (by kernel_rfl)
                have G := hJ.keep
                clear hJ t0 t1 t2 t3 t4 t5 t6 t7 t8 t9 t10 t11 t12 t13 t14 t15 t16
                rw [hfr]
                clear hfr T14
                simp only [List.foldl_cons, List.foldl_nil, List.setIfInBounds_toArray, List.set_cons_zero, List.set_cons_succ]
                go_wp2
                go_roundw
                case rel => exact ⟨m + 1, u', sm', by omega, congrArg (Value.int .i64) (by omega), rfl, rfl, Lib.hid ⟨HN.out.1, HN.out.2.1, HN.out.2.2.trans G⟩⟩
                case measure => simp [intOf] <;> omega
              case steps14 =>
                refine LinSteps.cons (k := 0) ?_ (LinSteps.cons (k := 1) ?_ (LinSteps.cons (k := 2) ?_ (LinSteps.cons (k := 3) ?_ (LinSteps.cons (k := 4) ?_ (LinSteps.cons (k := 5) ?_ (LinSteps.cons (k := 6) ?_ (LinSteps.cons (k := 7) ?_ (LinSteps.cons (k := 8) ?_ (LinSteps.cons (k := 9) ?_ (LinSteps.cons (k := 10) ?_ (LinSteps.cons (k := 11) ?_ (LinSteps.cons (k := 12) ?_ (LinSteps.cons (k := 13) ?_ (LinSteps.cons (k := 14) ?_ (LinSteps.cons (k := 15) ?_ (LinSteps.cons (k := 16) ?_ (LinSteps.nil)))))))))))))))))
                · -- 0
                  refine LinStep.plain rfl ?_
                  intro QQ bb T ww hn hJ hd K HK
                  have s8 := (hJ.yetSlot 8 0 16 (by kernel_rfl) (by kernel_rfl) hn _ rfl (by kernel_rfl))
                  simp only [List.getElem?_toArray, List.getElem?_cons_zero, List.getElem?_cons_succ] at s8
                  have G := hJ.keep
                  clear hJ hd hn
                  go_simp
                  exact HK.out _ _ (Keep.refl _) rfl
                · -- 1
                  refine LinStep.plain rfl ?_
                  intro QQ bb T ww hn hJ hd K HK
                  have s0 := (hJ.oldSlot 0 (by kernel_rfl))
                  simp only [List.getElem?_toArray, List.getElem?_cons_zero] at s0
                  have G := hJ.keep
                  clear hJ hd hn
                  go_simp
                  exact HK.out _ _ (Keep.refl _) rfl
                · -- 2
                  refine LinStep.plain rfl ?_
                  intro QQ bb T ww hn hJ hd K HK
                  have s10 := (hJ.oldSlot 10 (by kernel_rfl))
                  simp only [List.getElem?_toArray, List.getElem?_cons_zero, List.getElem?_cons_succ] at s10
                  have G := hJ.keep
                  clear hJ hd hn
                  go_simp
                  exact HK.out _ _ (Keep.refl _) rfl
                · -- 3
                  refine LinStep.plain rfl ?_
                  intro QQ bb T ww hn hJ hd K HK
                  obtain ⟨x1, t1, f1⟩ := hJ.dep hd 1 36 (by kernel_rfl) (by kernel_rfl)
                  obtain rfl : x1 = .slice (some ⟨b, off, none⟩) n cap := f1
                  obtain ⟨x2, t2, f2⟩ := hJ.dep hd 2 37 (by kernel_rfl) (by kernel_rfl)
                  obtain rfl : x2 = .int .i64 (k : Int) := f2
                  have G := hJ.keep
                  clear hJ hd hn
                  have hlt' : (k : Int) < (n : Int) := by omega
                  go_wp2
                  exact HK.out _ _ (Keep.refl _) rfl
                · -- 4
                  refine LinStep.plain rfl ?_
                  intro QQ bb T ww hn hJ hd K HK
                  obtain ⟨x3, t3, f3⟩ := hJ.dep hd 3 38 (by kernel_rfl) (by kernel_rfl)
                  obtain rfl : x3 = .pointer (some ⟨b, off + k * 2, none⟩) := f3
                  have G := hJ.keep
                  clear hJ hd hn
                  go_simp
                  exact HK.out _ _ (Keep.refl _) rfl
                · -- 5
                  refine LinStep.plain rfl ?_
                  intro QQ bb T ww hn hJ hd K HK
                  obtain ⟨x4, t4, f4⟩ := hJ.dep hd 4 39 (by kernel_rfl) (by kernel_rfl)
                  obtain rfl : x4 = .pointer (some ⟨b, off + k * 2, none⟩) := f4
                  have G := hJ.keep
                  clear hJ hd hn
                  have k0 := G.some d0
                  go_simp
                  exact HK.out _ _ (Keep.refl _) rfl
                · -- 6
                  refine LinStep.plain rfl ?_
                  intro QQ bb T ww hn hJ hd K HK
                  have s3 := (hJ.oldSlot 3 (by kernel_rfl))
                  simp only [List.getElem?_toArray, List.getElem?_cons_zero, List.getElem?_cons_succ] at s3
                  have G := hJ.keep
                  clear hJ hd hn
                  go_simp
                  exact HK.out _ _ (Keep.refl _) rfl
                · -- 7
                  refine LinStep.plain rfl ?_
                  intro QQ bb T ww hn hJ hd K HK
                  obtain ⟨x6, t6, f6⟩ := hJ.dep hd 6 41 (by kernel_rfl) (by kernel_rfl)
                  obtain rfl : x6 = .pointer (some ⟨w.heap.size, 1, none⟩) := f6
                  have G := hJ.keep
                  clear hJ hd hn
                  have k0 := G.some c1
                  go_simp
                  exact HK.out _ _ (Keep.refl _) rfl
                · -- 8
                  refine LinStep.plain rfl ?_
                  intro QQ bb T ww hn hJ hd K HK
                  obtain ⟨x5, t5, f5⟩ := hJ.dep hd 5 40 (by kernel_rfl) (by kernel_rfl)
                  obtain rfl : x5 = .int .i64 x := f5
                  obtain ⟨x7, t7, f7⟩ := hJ.dep hd 7 42 (by kernel_rfl) (by kernel_rfl)
                  obtain rfl : x7 = .int .i64 L := f7
                  have G := hJ.keep
                  clear hJ hd hn
                  have e1 : IntKind.i64.wrap (x + L) = x + L := IntWalk.i64_in _ (by omega)
                  go_simp
                  exact HK.out _ _ (Keep.refl _) rfl
                · -- 9
                  refine LinStep.plain rfl ?_
                  intro QQ bb T ww hn hJ hd K HK
                  have s9 := (hJ.oldSlot 9 (by kernel_rfl))
                  simp only [List.getElem?_toArray, List.getElem?_cons_zero, List.getElem?_cons_succ] at s9
                  have G := hJ.keep
                  clear hJ hd hn
                  go_simp
                  exact HK.out _ _ (Keep.refl _) rfl
                · -- 10
                  refine LinStep.plain rfl ?_
                  intro QQ bb T ww hn hJ hd K HK
                  obtain ⟨x9, t9, f9⟩ := hJ.dep hd 9 44 (by kernel_rfl) (by kernel_rfl)
                  obtain rfl : x9 = .int .i64 sm' := f9
                  have G := hJ.keep
                  clear hJ hd hn
                  have e0 : IntKind.i64.wrap SU = SU := IntWalk.i64_in _ (by omega)
                  have e1 : sm' * 1048576 = SU := HSU.out
                  go_simp
                  exact HK.out _ _ (Keep.refl _) rfl
                · -- 11
                  refine LinStep.plain rfl ?_
                  intro QQ bb T ww hn hJ hd K HK
                  have s3 := (hJ.oldSlot 3 (by kernel_rfl))
                  simp only [List.getElem?_toArray, List.getElem?_cons_zero, List.getElem?_cons_succ] at s3
                  have G := hJ.keep
                  clear hJ hd hn
                  go_simp
                  exact HK.out _ _ (Keep.refl _) rfl
                · -- 12
                  refine LinStep.plain rfl ?_
                  intro QQ bb T ww hn hJ hd K HK
                  obtain ⟨x11, t11, f11⟩ := hJ.dep hd 11 46 (by kernel_rfl) (by kernel_rfl)
                  obtain rfl : x11 = .pointer (some ⟨w.heap.size, 0, none⟩) := f11
                  have G := hJ.keep
                  clear hJ hd hn
                  have k0 := G.some c0
                  go_simp
                  exact HK.out _ _ (Keep.refl _) rfl
                · -- 13
                  refine LinStep.plain rfl ?_
                  intro QQ bb T ww hn hJ hd K HK
                  obtain ⟨x10, t10, f10⟩ := hJ.dep hd 10 45 (by kernel_rfl) (by kernel_rfl)
                  obtain rfl : x10 = .int .i64 SU := f10
                  obtain ⟨x12, t12, f12⟩ := hJ.dep hd 12 47 (by kernel_rfl) (by kernel_rfl)
                  obtain rfl : x12 = .int .i64 R := f12
                  have G := hJ.keep
                  clear hJ hd hn
                  go_wp2_with (go_at_call 62; ((with_reducible refine (ceil_is SU R q _ (by omega) (by omega) HQ).mono ?_); rintro _ w9 ⟨rfl, rfl⟩))
                  exact HK.out _ _ (Keep.refl _) rfl
                · -- 14
                  refine LinStep.plain rfl ?_
                  intro QQ bb T ww hn hJ hd K HK
                  obtain ⟨x8, t8, f8⟩ := hJ.dep hd 8 43 (by kernel_rfl) (by kernel_rfl)
                  obtain rfl : x8 = .int .i64 (x + L) := f8
                  obtain ⟨x13, t13, f13⟩ := hJ.dep hd 13 48 (by kernel_rfl) (by kernel_rfl)
                  obtain rfl : x13 = .int .i64 q := f13
                  have G := hJ.keep
                  clear hJ hd hn
                  have e1 : IntKind.i64.wrap (x + L + q) = x + L + q := IntWalk.i64_in _ (by omega)
                  go_simp
                  exact HK.out _ _ (Keep.refl _) rfl
                · -- 15
                  refine LinStep.plain rfl ?_
                  intro QQ bb T ww hn hJ hd K HK
                  obtain ⟨x0, t0, f0⟩ := hJ.dep hd 0 35 (by kernel_rfl) (by kernel_rfl)
                  obtain rfl : x0 = .int .i64 u := f0
                  obtain ⟨x14, t14, f14⟩ := hJ.dep hd 14 49 (by kernel_rfl) (by kernel_rfl)
                  obtain rfl : x14 = .int .i64 (x + L + q) := f14
                  have G := hJ.keep
                  clear hJ hd hn
                  go_simp
                  exact HK.out _ _ (Keep.refl _) (congrArg (Value.int .i64) HU.out)
                · -- 16
                  refine LinStep.plain rfl ?_
                  intro QQ bb T ww hn hJ hd K HK
                  obtain ⟨x15, t15, f15⟩ := hJ.dep hd 15 50 (by kernel_rfl) (by kernel_rfl)
                  obtain rfl : x15 = .int .i64 u' := f15
                  have G := hJ.keep
                  clear hJ hd hn
                  go_simp
                  exact HK.out _ _ (Keep.refl _) rfl
            · obtain rfl : m = j + 1 := by omega
              have ek : ((j : Int) - ((j + 1 : Nat) : Int)) = -1 := by omega
              rw [ek]
              have hu : u = L + ceilD (doneS (atL l) (szL l) R (j + 1)) R := by rw [← HI.out.1]; exact lastS_end hR.1 sv.2.2.1 (okSteps_bd HK.out.2 0 (by rw [HL.out]; omega)).1 (fun i hi => (doneS_bd HK.out.2 hR i (by rw [HL.out]; omega)).1)
              have HU := Lib.hid hu
              have KW := Lib.hid HI.out.2.2
              clear hu HI ek
              go_wp2_with (at_builtin; refine wpList_append_lies _ rfl _ _ 74 rfl w2.heap.size 3 i0 (.int .i64 0) 1 8 Try.underlying74 hi hz0 hz1 hz2 rfl (by decide) _ _ _ rfl ((ownsKeep HR.out.1 KW.out).alloc _) ⟨wr.heap.size, 0, none⟩ 1 1 [.int .i64 u] rfl rfl (cells_one (by simp [go_sem])) (by intro u hu; simp at hu; subst hu; rfl) (by omega) (by unfold maxLen; omega) (by omega) (by have := HR.out.2.size; have := KW.out.size; simp; omega) _ rfl ?_; intro g3 cap3 w3 hown3 hgrow3 _ _)
              go_roundw
              case rel =>
                refine ⟨j + 1, by omega, by go_num, Lib.hid ⟨?_, ?_⟩⟩
                · rw [drainK_succ, List.map_append, ← HU.out]; exact hown3
                · exact (((HR.out.2.trans KW.out).alloc _).byRow hgrow3 (fun i hi => (((ownsKeep HR.out.1 KW.out).alloc (.cells #[.int .i64 u] 3)).lt i hi).1))
              case measure => simp [intOf]; omega
        · obtain rfl : j = n := by omega
          go_wp2
          go_ret2
          have hv := HV.out
          subst hv
          refine ⟨_, rfl, ?_, KM.out.trans HR.out.2⟩
          have := listAt_owns HR.out.1
          show ListAt _ _ (drainL l R L)
          unfold drainL
          rw [HL.out]
          exact this

end Go.Proofs.Ytmamadgikjkjdaa
