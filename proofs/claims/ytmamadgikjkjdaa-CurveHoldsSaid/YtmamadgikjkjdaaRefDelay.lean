/- What Delay, Backlog, Output and Join of the reference return: what the program's do. -/
import Derived.Test.YtmamadgikjkjdaaRefClear
import Derived.Test.YtmamadgikjkjdaaOutput
import Derived.Test.YtmamadgikjkjdaaTail
namespace Go.Proofs.Ytmamadgikjkjdaa
open Go Go.RowKit

theorem bucketsE_130 {l : List (Int × Int)} (h : bucketsE l = 130) : l.length ≠ 0 ∧ l.length ≤ 12 ∧ okEach (atL l) (szL l) l.length = false := by
  unfold bucketsE at h
  split at h
  · cases h
  · split at h
    · cases h
    · split at h
      · cases h
      · rename_i h1 h2 h3
        exact ⟨h1, by omega, by simpa using h3⟩
theorem bucketsE_cases (l : List (Int × Int)) : bucketsE l = 2 ∨ bucketsE l = 3 ∨ bucketsE l = 130 ∨ bucketsE l = 0 := by
  unfold bucketsE
  split
  · simp
  · split
    · simp
    · split <;> simp
set_option maxRecDepth 100000 in
set_option maxHeartbeats 4000000 in
theorem refDelay_is (a0 : Option Addr) (n cap : Nat) (l : List (Int × Int)) (R L d E : Int) (w : World) (h : Hid (RowAt w (.slice a0 n cap) l)) (H : Hid (delayR l R L = (d, E))) :
    Calls Try.prog 34 #[.slice a0 n cap, .agg #[.int .i64 R, .int .i64 L]] w (Res (.tuple #[.int .i64 d, .int .i64 E]) w) := by
  have k0 := Keep.alloc (Keep.refl w) (.cells #[.int .i64 R, .int .i64 L] 54)
  have HR0 := Lib.hid (h.out.keep k0)
  have hd := H.out
  obtain ⟨h1, hm, h2⟩ := rowForm h.out
  have HL := Lib.hid h1
  have HCC := Lib.hid h2
  unfold delayR flowE at hd
  by_cases hn0 : n = 0
  · have hb : bucketsE l = 2 := by unfold bucketsE; rw [if_pos (by omega)]
    rw [hb] at hd
    obtain ⟨rfl, rfl⟩ : 0 = d ∧ 2 = E := by simpa using hd
    clear hd hb H h h1 h2
    subst hn0
    go_enter Try.func34, Try.ntmps34
    go_wp2
    go_ret2
    exact ⟨rfl, k0⟩
  · have e0 : ((n : Int) == 0) = false := by simp; omega
    by_cases hn1 : 12 < n
    · have hb : bucketsE l = 3 := by unfold bucketsE; rw [if_neg (by omega), if_pos (by omega)]
      rw [hb] at hd
      obtain ⟨rfl, rfl⟩ : 0 = d ∧ 3 = E := by simpa using hd
      clear hd hb H h h1 h2
      go_enter Try.func34, Try.ntmps34
      go_wp2
      go_ret2
      exact ⟨rfl, k0⟩
    · have hn2 : n ≤ 12 := by omega
      have c0 : (w.alloc (.cells #[.int .i64 R, .int .i64 L] 54)).cell? ⟨w.heap.size, 0, none⟩ = some (.int .i64 R) := by simp [go_sem]
      have c1 : (w.alloc (.cells #[.int .i64 R, .int .i64 L] 54)).cell? ⟨w.heap.size, 1, none⟩ = some (.int .i64 L) := by simp [go_sem]
      have hbE : bucketsE l = if okEach (atL l) (szL l) n then 0 else 130 := by unfold bucketsE; rw [if_neg (by omega), if_neg (by omega), h1]
      rw [hbE] at hd
      have HDD := Lib.hid hd
      have HBE := Lib.hid hbE
      clear hd H h h1 h2 hbE
      go_enter Try.func34, Try.ntmps34
      go_wp2
      generalize w.alloc (.cells #[.int .i64 R, .int .i64 L] 54) = W0 at k0 HR0 c0 c1 ⊢
      go_loopw [6] (fun s6 wr => ∃ k : Nat, k ≤ n ∧ s6 = .int .i64 k ∧ Hid (okEach (atL l) (szL l) k = true ∧ Keep W0 wr)) (fun i _ => n - (intOf i).toNat)
      case atStart => exact ⟨0, Nat.zero_le _, rfl, Lib.hid ⟨rfl, Keep.refl _⟩⟩
      case round =>
        obtain ⟨k, hk, rfl, HK⟩ := hrel
        by_cases hlt : k < n
        · obtain ⟨b, off, rfl, d0, d1⟩ := HCC.out k hlt
          have d0 := HK.out.2.some (k0.some d0)
          have d1 := HK.out.2.some (k0.some d1)
          obtain ⟨p, hp⟩ : ∃ p, atL l k = p := ⟨_, rfl⟩
          obtain ⟨q, hq⟩ : ∃ q, szL l k = q := ⟨_, rfl⟩
          rw [hp] at d0
          rw [hq] at d1
          cases ho : okBk p q with
          | false =>
            have HO := Lib.hid ho
            have hE : okEach (atL l) (szL l) n = false := okEach_no hlt (by rw [hp, hq]; exact ho)
            have hd := HDD.out
            rw [hE] at hd
            obtain ⟨rfl, rfl⟩ : 0 = d ∧ 130 = E := by simpa using hd
            clear ho hp hq hd hE
            go_wp2_with (go_at_call 58; ((with_reducible refine (right_is p q _ _ HO).mono ?_); rintro e w1 ⟨rfl, k1⟩))
            go_ret2
            exact ⟨rfl, (k0.trans HK.out.2).trans k1⟩
          | true =>
            have HO := Lib.hid ho
            have HOS : Hid (okBk (atL l k) (szL l k) = true) := Lib.hid (by rw [hp, hq]; exact ho)
            clear ho hp hq
            go_wp2_with (go_at_call 58; ((with_reducible refine (right_is p q _ _ HO).mono ?_); rintro e w1 ⟨rfl, k1⟩))
            go_roundw
            case rel => exact ⟨k + 1, by omega, rfl, Lib.hid ⟨by rw [okEach_succ, HK.out.1, HOS.out]; rfl, HK.out.2.trans k1⟩⟩
            case measure => simp [intOf]; omega
        · obtain rfl : k = n := by omega
          have hE := HK.out.1
          have hd := HDD.out
          rw [hE] at hd
          have hb : bucketsE l = 0 := by rw [HBE.out, hE]; rfl
          have c0 := HK.out.2.some c0
          have c1 := HK.out.2.some c1
          have HRX := Lib.hid (HR0.out.keep HK.out.2)
          have kk := k0.trans HK.out.2
          cases hs : okSv R L with
          | false =>
            have HS := Lib.hid hs
            have hse : serveE R L = 140 := by unfold serveE; rw [hs]; rfl
            rw [hse] at hd
            obtain ⟨rfl, rfl⟩ : 0 = d ∧ 140 = E := by simpa using hd
            clear hd hE hs hse HDD HBE hb
            go_wp2_with (go_at_call 55; ((with_reducible refine (rightSv_is R L _ _ HS).mono ?_); rintro e w1 ⟨rfl, k1⟩))
            go_ret2
            exact ⟨rfl, kk.trans k1⟩
          | true =>
            have HS := Lib.hid hs
            have hse : serveE R L = 0 := by unfold serveE; rw [hs]; rfl
            have sv := okSv_iff.1 hs
            have hR : 1 ≤ R ∧ R ≤ 2097152 := ⟨sv.1, sv.2.1⟩
            rw [hse] at hd
            cases hsl : slowAny l R with
            | false =>
              have HSL := Lib.hid hsl
              rw [hsl] at hd
              obtain ⟨rfl, rfl⟩ : 0 = d ∧ 141 = E := by simpa using hd
              clear hd hE hs hse HDD HBE hb hsl
              go_wp2_with (first | (go_at_call 55; ((with_reducible refine (rightSv_is R L _ _ HS).mono ?_); rintro e w1 ⟨rfl, k1⟩; have c0 := k1.some c0; have c1 := k1.some c1)) | (go_at_call 59; ((with_reducible refine (refSlow_is a0 k cap l R _ _ (Lib.hid (HRX.out.keep k1)) HSL).mono ?_); rintro e w2 ⟨rfl, k2⟩)))
              go_ret2
              exact ⟨rfl, (kk.trans k1).trans k2⟩
            | true =>
              have HSL := Lib.hid hsl
              rw [hsl] at hd
              have bq := clearS_bd (R := R) (bucketsE_row hb).2.2 hR.1
              obtain ⟨q, hq⟩ : ∃ q, clearS l R = q := ⟨_, rfl⟩
              rw [hq] at bq hd
              have HQ := Lib.hid hq
              obtain ⟨rfl, rfl⟩ : L + q = d ∧ 0 = E := by simpa using hd
              clear hd hE hs hse HDD HBE hq
              go_upto_region 14 with (first | (go_at_call 55; ((with_reducible refine (rightSv_is R L _ _ HS).mono ?_); rintro e w1 ⟨rfl, k1⟩; have c0 := k1.some c0; have c1 := k1.some c1)) | (go_at_call 59; ((with_reducible refine (refSlow_is a0 k cap l R _ _ (Lib.hid (HRX.out.keep k1)) HSL).mono ?_); rintro e w2 ⟨rfl, k2⟩; have c0 := k2.some c0; have c1 := k2.some c1)))
              have kk := (kk.trans k1).trans k2
              have HRX := Lib.hid (HRX.out.keep (k1.trans k2))
              clear k1 k2
              refine region_lin (W0 := w2) (listF [fun v ww => v = .pointer (some ⟨w.heap.size, 1, none⟩), fun v ww => v = .int .i64 L, fun v ww => v = .slice a0 k cap, fun v ww => v = .pointer (some ⟨w.heap.size, 0, none⟩), fun v ww => v = .int .i64 R, fun v ww => v = .int .i64 q, fun v ww => v = .int .i64 (L + q), fun v ww => v = .int .i64 (L + q), fun v ww => v = .int .i64 0]) (listF_stable _ ⟨fun _ _ _ _ h => h, fun _ _ _ _ h => h, fun _ _ _ _ h => h, fun _ _ _ _ h => h, fun _ _ _ _ h => h, fun _ _ _ _ h => h, fun _ _ _ _ h => h, fun _ _ _ _ h => h, fun _ _ _ _ h => h, trivial⟩) (by kernel_rfl) (by kernel_rfl) (by kernel_rfl) (by kernel_rfl) (Keep.refl _) ?done ?steps
              case done =>
                intro T wz hJ
                obtain ⟨x0, t0, f0⟩ := hJ.fact 0 33 (by decide) (by kernel_rfl)
                obtain rfl : x0 = .pointer (some ⟨w.heap.size, 1, none⟩) := f0
                obtain ⟨x1, t1, f1⟩ := hJ.fact 1 34 (by decide) (by kernel_rfl)
                obtain rfl : x1 = .int .i64 L := f1
                obtain ⟨x2, t2, f2⟩ := hJ.fact 2 35 (by decide) (by kernel_rfl)
                obtain rfl : x2 = .slice a0 k cap := f2
                obtain ⟨x3, t3, f3⟩ := hJ.fact 3 36 (by decide) (by kernel_rfl)
                obtain rfl : x3 = .pointer (some ⟨w.heap.size, 0, none⟩) := f3
                obtain ⟨x4, t4, f4⟩ := hJ.fact 4 37 (by decide) (by kernel_rfl)
                obtain rfl : x4 = .int .i64 R := f4
                obtain ⟨x5, t5, f5⟩ := hJ.fact 5 38 (by decide) (by kernel_rfl)
                obtain rfl : x5 = .int .i64 q := f5
                obtain ⟨x6, t6, f6⟩ := hJ.fact 6 39 (by decide) (by kernel_rfl)
                obtain rfl : x6 = .int .i64 (L + q) := f6
                obtain ⟨x7, t7, f7⟩ := hJ.fact 7 4 (by decide) (by kernel_rfl)
                obtain rfl : x7 = .int .i64 (L + q) := f7
                obtain ⟨x8, t8, f8⟩ := hJ.fact 8 5 (by decide) (by kernel_rfl)
                obtain rfl : x8 = .int .i64 0 := f8
                have hfr := hJ.frame [(33, .pointer (some ⟨w.heap.size, 1, none⟩)), (34, .int .i64 L), (35, .slice a0 k cap), (36, .pointer (some ⟨w.heap.size, 0, none⟩)), (37, .int .i64 R), (38, .int .i64 q), (39, .int .i64 (L + q)), (4, .int .i64 (L + q)), (5, .int .i64 0)] (by simp [t0, t1, t2, t3, t4, t5, t6, t7, t8]) (by kernel_rfl)
                have G := hJ.keep
                clear hJ t0 t1 t2 t3 t4 t5 t6 t7 t8
                rw [hfr]
                clear hfr T
                simp only [List.foldl_cons, List.foldl_nil, List.setIfInBounds_toArray, List.set_cons_zero, List.set_cons_succ]
                go_wp2
                go_ret2
                exact ⟨rfl, kk.trans G⟩
              case steps =>
                refine LinSteps.cons (k := 0) ?_ (LinSteps.cons (k := 1) ?_ (LinSteps.cons (k := 2) ?_ (LinSteps.cons (k := 3) ?_ (LinSteps.cons (k := 4) ?_ (LinSteps.cons (k := 5) ?_ (LinSteps.cons (k := 6) ?_ (LinSteps.cons (k := 7) ?_ (LinSteps.cons (k := 8) ?_ (LinSteps.nil)))))))))
                · -- 0
                  refine LinStep.plain rfl ?_
                  intro QQ bb T ww hn hJ hd K HK
                  have s3 := (hJ.oldSlot 3 (by kernel_rfl))
                  simp only [List.getElem?_toArray, List.getElem?_cons_zero, List.getElem?_cons_succ] at s3
                  have G := hJ.keep
                  clear hJ hd hn
                  go_simp
                  exact HK.out _ _ (Keep.refl _) rfl
                · -- 1
                  refine LinStep.plain rfl ?_
                  intro QQ bb T ww hn hJ hd K HK
                  obtain ⟨x0, t0, f0⟩ := hJ.dep hd 0 33 (by kernel_rfl) (by kernel_rfl)
                  obtain rfl : x0 = .pointer (some ⟨w.heap.size, 1, none⟩) := f0
                  have G := hJ.keep
                  clear hJ hd hn
                  have k0 := G.some c1
                  go_simp
                  exact HK.out _ _ (Keep.refl _) rfl
                · -- 2
                  refine LinStep.plain rfl ?_
                  intro QQ bb T ww hn hJ hd K HK
                  have s0 := (hJ.oldSlot 0 (by kernel_rfl))
                  simp only [List.getElem?_toArray, List.getElem?_cons_zero] at s0
                  have G := hJ.keep
                  clear hJ hd hn
                  go_simp
                  exact HK.out _ _ (Keep.refl _) rfl
                · -- 3
                  refine LinStep.plain rfl ?_
                  intro QQ bb T ww hn hJ hd K HK
                  have s3 := (hJ.oldSlot 3 (by kernel_rfl))
                  simp only [List.getElem?_toArray, List.getElem?_cons_zero, List.getElem?_cons_succ] at s3
                  have G := hJ.keep
                  clear hJ hd hn
                  go_simp
                  exact HK.out _ _ (Keep.refl _) rfl
                · -- 4
                  refine LinStep.plain rfl ?_
                  intro QQ bb T ww hn hJ hd K HK
                  obtain ⟨x3, t3, f3⟩ := hJ.dep hd 3 36 (by kernel_rfl) (by kernel_rfl)
                  obtain rfl : x3 = .pointer (some ⟨w.heap.size, 0, none⟩) := f3
                  have G := hJ.keep
                  clear hJ hd hn
                  have k0 := G.some c0
                  go_simp
                  exact HK.out _ _ (Keep.refl _) rfl
                · -- 5
                  refine LinStep.plain rfl ?_
                  intro QQ bb T ww hn hJ hd K HK
                  obtain ⟨x2, t2, f2⟩ := hJ.dep hd 2 35 (by kernel_rfl) (by kernel_rfl)
                  obtain rfl : x2 = .slice a0 k cap := f2
                  obtain ⟨x4, t4, f4⟩ := hJ.dep hd 4 37 (by kernel_rfl) (by kernel_rfl)
                  obtain rfl : x4 = .int .i64 R := f4
                  have G := hJ.keep
                  clear hJ hd hn
                  have HRw := Lib.hid (HRX.out.keep G)
                  go_wp2_with (go_at_call 60; ((with_reducible refine (refClearing_is a0 k cap l R q _ hR hb hsl HRw HQ).mono ?_); rintro _ w9 ⟨rfl, hk⟩))
                  exact HK.out _ _ hk rfl
                · -- 6
                  refine LinStep.plain rfl ?_
                  intro QQ bb T ww hn hJ hd K HK
                  obtain ⟨x1, t1, f1⟩ := hJ.dep hd 1 34 (by kernel_rfl) (by kernel_rfl)
                  obtain rfl : x1 = .int .i64 L := f1
                  obtain ⟨x5, t5, f5⟩ := hJ.dep hd 5 38 (by kernel_rfl) (by kernel_rfl)
                  obtain rfl : x5 = .int .i64 q := f5
                  have G := hJ.keep
                  clear hJ hd hn
                  have e1 : IntKind.i64.wrap (L + q) = L + q := IntWalk.i64_in _ (by omega)
                  go_simp
                  exact HK.out _ _ (Keep.refl _) rfl
                · -- 7
                  refine LinStep.plain rfl ?_
                  intro QQ bb T ww hn hJ hd K HK
                  obtain ⟨x6, t6, f6⟩ := hJ.dep hd 6 39 (by kernel_rfl) (by kernel_rfl)
                  obtain rfl : x6 = .int .i64 (L + q) := f6
                  have G := hJ.keep
                  clear hJ hd hn
                  go_simp
                  exact HK.out _ _ (Keep.refl _) rfl
                · -- 8
                  refine LinStep.plain rfl ?_
                  intro QQ bb T ww hn hJ hd K HK
                  have G := hJ.keep
                  clear hJ hd hn
                  go_simp
                  exact HK.out _ _ (Keep.refl _) rfl


set_option maxRecDepth 100000 in
set_option maxHeartbeats 1000000 in
theorem refBacklog_is (B S R L d E : Int) (w : World) (H : Hid (backlogR B S R L = (d, E))) :
    Calls Try.prog 36 #[.agg #[.int .i64 B, .int .i64 S], .agg #[.int .i64 R, .int .i64 L]] w (Res (.tuple #[.int .i64 d, .int .i64 E]) w) := by
  have k0 := Keep.alloc (Keep.alloc (Keep.refl w) (.cells #[.int .i64 B, .int .i64 S] 30)) (.cells #[.int .i64 R, .int .i64 L] 54)
  have hrow : ∀ w' : World, w'.heap.size = w.heap.size + 1 + 1 → RowAt (w'.alloc (.cells #[.int .i64 B, .int .i64 S] 30)) (.slice (some ⟨w.heap.size + 1 + 1, 0, none⟩) 1 1) [(B, S)] := fun w' e => by rw [← e]; exact rowOne w' B S _
  have HRO := Lib.hid hrow
  clear hrow
  have hd := H.out
  unfold backlogR at hd
  by_cases hf : flowE [(B, S)] R L = 0
  · rw [if_pos hf] at hd
    obtain ⟨hb, hsv, hsl⟩ := flowE_ok hf
    have hs := okSv_iff.1 hsv
    have bk := okBk_iff.1 (rowOne_ok hb)
    have HDl : Hid (delayR [(B, S)] R L = (L + clearS [(B, S)] R, 0)) := Lib.hid (by unfold delayR; rw [if_pos hf])
    generalize L + clearS [(B, S)] R = dl at HDl
    have hc := ceil_small (S := S) (L := L) (by omega) (by omega)
    have hc0 := ceilD_nonneg (n := S * L) (d := 1048576) (by omega) (Int.mul_nonneg (by omega) (by omega))
    obtain ⟨q, hq⟩ : ∃ q, ceilD (S * L) 1048576 = q := ⟨_, rfl⟩
    rw [hq] at hc hc0 hd
    have hp := prod_bd (show 0 ≤ S by omega) bk.2.2.2 hs.2.2.1 hs.2.2.2
    obtain ⟨PR, hPR⟩ : ∃ PR, S * L = PR := ⟨_, rfl⟩
    rw [hPR] at hq hp
    have HPR := Lib.hid hPR
    have HQ := Lib.hid hq
    obtain ⟨rfl, rfl⟩ : B + q = d ∧ 0 = E := by simpa using hd
    clear hd hq hf H hsv hb hsl hPR
    go_enter Try.func36, Try.ntmps36
    go_upto_region 4 with (go_at_call 34; ((with_reducible refine (refDelay_is (some ⟨w.heap.size + 1 + 1, 0, none⟩) 1 1 [(B, S)] R L dl 0 _ (Lib.hid (HRO.out _ (by simp))) HDl).mono ?_); rintro e w1 ⟨rfl, k1⟩; have b0 := k1.some (b := w.heap.size) (o := 0) (v := .int .i64 B) (by simp [go_sem]); have b1 := k1.some (b := w.heap.size) (o := 1) (v := .int .i64 S) (by simp [go_sem]); have c1 := k1.some (b := w.heap.size + 1) (o := 1) (v := .int .i64 L) (by simp [go_sem])))
    have kk := (k0.alloc (.cells #[.int .i64 B, .int .i64 S] 30)).trans k1
    clear k0 k1 HRO HDl
    refine region_lin (W0 := w1) (listF [fun v ww => v = .pointer (some ⟨w.heap.size, 0, none⟩), fun v ww => v = .int .i64 B, fun v ww => v = .pointer (some ⟨w.heap.size, 1, none⟩), fun v ww => v = .int .i64 S, fun v ww => v = .pointer (some ⟨(w.heap.size + 1), 1, none⟩), fun v ww => v = .int .i64 L, fun v ww => v = .int .i64 PR, fun v ww => v = .int .i64 q, fun v ww => v = .int .i64 (B + q), fun v ww => v = .int .i64 (B + q), fun v ww => v = .int .i64 0]) (listF_stable _ ⟨fun _ _ _ _ h => h, fun _ _ _ _ h => h, fun _ _ _ _ h => h, fun _ _ _ _ h => h, fun _ _ _ _ h => h, fun _ _ _ _ h => h, fun _ _ _ _ h => h, fun _ _ _ _ h => h, fun _ _ _ _ h => h, fun _ _ _ _ h => h, fun _ _ _ _ h => h, trivial⟩) (by kernel_rfl) (by kernel_rfl) (by kernel_rfl) (by kernel_rfl) (Keep.refl _) ?done ?steps
    case done =>
      intro T wz hJ
      obtain ⟨x0, t0, f0⟩ := hJ.fact 0 18 (by decide) (by kernel_rfl)
      obtain rfl : x0 = .pointer (some ⟨w.heap.size, 0, none⟩) := f0
      obtain ⟨x1, t1, f1⟩ := hJ.fact 1 19 (by decide) (by kernel_rfl)
      obtain rfl : x1 = .int .i64 B := f1
      obtain ⟨x2, t2, f2⟩ := hJ.fact 2 20 (by decide) (by kernel_rfl)
      obtain rfl : x2 = .pointer (some ⟨w.heap.size, 1, none⟩) := f2
      obtain ⟨x3, t3, f3⟩ := hJ.fact 3 21 (by decide) (by kernel_rfl)
      obtain rfl : x3 = .int .i64 S := f3
      obtain ⟨x4, t4, f4⟩ := hJ.fact 4 22 (by decide) (by kernel_rfl)
      obtain rfl : x4 = .pointer (some ⟨(w.heap.size + 1), 1, none⟩) := f4
      obtain ⟨x5, t5, f5⟩ := hJ.fact 5 23 (by decide) (by kernel_rfl)
      obtain rfl : x5 = .int .i64 L := f5
      obtain ⟨x6, t6, f6⟩ := hJ.fact 6 24 (by decide) (by kernel_rfl)
      obtain rfl : x6 = .int .i64 PR := f6
      obtain ⟨x7, t7, f7⟩ := hJ.fact 7 25 (by decide) (by kernel_rfl)
      obtain rfl : x7 = .int .i64 q := f7
      obtain ⟨x8, t8, f8⟩ := hJ.fact 8 26 (by decide) (by kernel_rfl)
      obtain rfl : x8 = .int .i64 (B + q) := f8
      obtain ⟨x9, t9, f9⟩ := hJ.fact 9 4 (by decide) (by kernel_rfl)
      obtain rfl : x9 = .int .i64 (B + q) := f9
      obtain ⟨x10, t10, f10⟩ := hJ.fact 10 5 (by decide) (by kernel_rfl)
      obtain rfl : x10 = .int .i64 0 := f10
      have hfr := hJ.frame [(18, .pointer (some ⟨w.heap.size, 0, none⟩)), (19, .int .i64 B), (20, .pointer (some ⟨w.heap.size, 1, none⟩)), (21, .int .i64 S), (22, .pointer (some ⟨(w.heap.size + 1), 1, none⟩)), (23, .int .i64 L), (24, .int .i64 PR), (25, .int .i64 q), (26, .int .i64 (B + q)), (4, .int .i64 (B + q)), (5, .int .i64 0)] (by simp [t0, t1, t2, t3, t4, t5, t6, t7, t8, t9, t10]) (by kernel_rfl)
      have G := hJ.keep
      clear hJ t0 t1 t2 t3 t4 t5 t6 t7 t8 t9 t10
      rw [hfr]
      clear hfr T
      simp only [List.foldl_cons, List.foldl_nil, List.setIfInBounds_toArray, List.set_cons_zero, List.set_cons_succ]
      go_wp2
      go_ret2
      exact ⟨rfl, kk.trans G⟩
    case steps =>
      refine LinSteps.cons (k := 0) ?_ (LinSteps.cons (k := 1) ?_ (LinSteps.cons (k := 2) ?_ (LinSteps.cons (k := 3) ?_ (LinSteps.cons (k := 4) ?_ (LinSteps.cons (k := 5) ?_ (LinSteps.cons (k := 6) ?_ (LinSteps.cons (k := 7) ?_ (LinSteps.cons (k := 8) ?_ (LinSteps.cons (k := 9) ?_ (LinSteps.cons (k := 10) ?_ (LinSteps.nil)))))))))))
      · -- 0
        refine LinStep.plain rfl ?_
        intro QQ bb T ww hn hJ hd K HK
        have s2 := (hJ.oldSlot 2 (by kernel_rfl))
        simp only [List.getElem?_toArray, List.getElem?_cons_zero, List.getElem?_cons_succ] at s2
        have G := hJ.keep
        clear hJ hd hn
        go_simp
        exact HK.out _ _ (Keep.refl _) rfl
      · -- 1
        refine LinStep.plain rfl ?_
        intro QQ bb T ww hn hJ hd K HK
        obtain ⟨x0, t0, f0⟩ := hJ.dep hd 0 18 (by kernel_rfl) (by kernel_rfl)
        obtain rfl : x0 = .pointer (some ⟨w.heap.size, 0, none⟩) := f0
        have G := hJ.keep
        clear hJ hd hn
        have k0 := G.some b0
        go_simp
        exact HK.out _ _ (Keep.refl _) rfl
      · -- 2
        refine LinStep.plain rfl ?_
        intro QQ bb T ww hn hJ hd K HK
        have s2 := (hJ.oldSlot 2 (by kernel_rfl))
        simp only [List.getElem?_toArray, List.getElem?_cons_zero, List.getElem?_cons_succ] at s2
        have G := hJ.keep
        clear hJ hd hn
        go_simp
        exact HK.out _ _ (Keep.refl _) rfl
      · -- 3
        refine LinStep.plain rfl ?_
        intro QQ bb T ww hn hJ hd K HK
        obtain ⟨x2, t2, f2⟩ := hJ.dep hd 2 20 (by kernel_rfl) (by kernel_rfl)
        obtain rfl : x2 = .pointer (some ⟨w.heap.size, 1, none⟩) := f2
        have G := hJ.keep
        clear hJ hd hn
        have k0 := G.some b1
        go_simp
        exact HK.out _ _ (Keep.refl _) rfl
      · -- 4
        refine LinStep.plain rfl ?_
        intro QQ bb T ww hn hJ hd K HK
        have s3 := (hJ.oldSlot 3 (by kernel_rfl))
        simp only [List.getElem?_toArray, List.getElem?_cons_zero, List.getElem?_cons_succ] at s3
        have G := hJ.keep
        clear hJ hd hn
        go_simp
        exact HK.out _ _ (Keep.refl _) rfl
      · -- 5
        refine LinStep.plain rfl ?_
        intro QQ bb T ww hn hJ hd K HK
        obtain ⟨x4, t4, f4⟩ := hJ.dep hd 4 22 (by kernel_rfl) (by kernel_rfl)
        obtain rfl : x4 = .pointer (some ⟨(w.heap.size + 1), 1, none⟩) := f4
        have G := hJ.keep
        clear hJ hd hn
        have k0 := G.some c1
        go_simp
        exact HK.out _ _ (Keep.refl _) rfl
      · -- 6
        refine LinStep.plain rfl ?_
        intro QQ bb T ww hn hJ hd K HK
        obtain ⟨x3, t3, f3⟩ := hJ.dep hd 3 21 (by kernel_rfl) (by kernel_rfl)
        obtain rfl : x3 = .int .i64 S := f3
        obtain ⟨x5, t5, f5⟩ := hJ.dep hd 5 23 (by kernel_rfl) (by kernel_rfl)
        obtain rfl : x5 = .int .i64 L := f5
        have G := hJ.keep
        clear hJ hd hn
        have e0 : IntKind.i64.wrap PR = PR := IntWalk.i64_in _ (by omega)
        have e1 : S * L = PR := HPR.out
        go_simp
        exact HK.out _ _ (Keep.refl _) rfl
      · -- 7
        refine LinStep.plain rfl ?_
        intro QQ bb T ww hn hJ hd K HK
        obtain ⟨x6, t6, f6⟩ := hJ.dep hd 6 24 (by kernel_rfl) (by kernel_rfl)
        obtain rfl : x6 = .int .i64 PR := f6
        have G := hJ.keep
        clear hJ hd hn
        go_wp2_with (go_at_call 62; ((with_reducible refine (ceil_is PR 1048576 q _ (by omega) (by omega) HQ).mono ?_); rintro _ w9 ⟨rfl, rfl⟩))
        exact HK.out _ _ (Keep.refl _) rfl
      · -- 8
        refine LinStep.plain rfl ?_
        intro QQ bb T ww hn hJ hd K HK
        obtain ⟨x1, t1, f1⟩ := hJ.dep hd 1 19 (by kernel_rfl) (by kernel_rfl)
        obtain rfl : x1 = .int .i64 B := f1
        obtain ⟨x7, t7, f7⟩ := hJ.dep hd 7 25 (by kernel_rfl) (by kernel_rfl)
        obtain rfl : x7 = .int .i64 q := f7
        have G := hJ.keep
        clear hJ hd hn
        have e1 : IntKind.i64.wrap (B + q) = B + q := IntWalk.i64_in _ (by omega)
        go_simp
        exact HK.out _ _ (Keep.refl _) rfl
      · -- 9
        refine LinStep.plain rfl ?_
        intro QQ bb T ww hn hJ hd K HK
        obtain ⟨x8, t8, f8⟩ := hJ.dep hd 8 26 (by kernel_rfl) (by kernel_rfl)
        obtain rfl : x8 = .int .i64 (B + q) := f8
        have G := hJ.keep
        clear hJ hd hn
        go_simp
        exact HK.out _ _ (Keep.refl _) rfl
      · -- 10
        refine LinStep.plain rfl ?_
        intro QQ bb T ww hn hJ hd K HK
        have G := hJ.keep
        clear hJ hd hn
        go_simp
        exact HK.out _ _ (Keep.refl _) rfl
  · rw [if_neg hf] at hd
    obtain ⟨F, hF⟩ : ∃ F, flowE [(B, S)] R L = F := ⟨_, rfl⟩
    rw [hF] at hd hf
    have HDl : Hid (delayR [(B, S)] R L = (0, F)) := Lib.hid (by unfold delayR; rw [if_neg (by rw [hF]; exact hf), hF])
    obtain ⟨rfl, rfl⟩ : 0 = d ∧ F = E := by simpa using hd
    have e1 : (F == 0) = false := by simp [hf]
    have e2 : (F != 0) = true := by simp [hf]
    clear hd hF H
    go_enter Try.func36, Try.ntmps36
    go_wp2_with (go_at_call 34; ((with_reducible refine (refDelay_is (some ⟨w.heap.size + 1 + 1, 0, none⟩) 1 1 [(B, S)] R L 0 F _ (Lib.hid (HRO.out _ (by simp))) HDl).mono ?_); rintro e w1 ⟨rfl, k1⟩))
    go_ret2
    exact ⟨rfl, (k0.alloc _).trans k1⟩

set_option maxRecDepth 100000 in
set_option maxHeartbeats 4000000 in
theorem refOutput_is (B S R L X Y E : Int) (w : World) (H : Hid (outputR B S R L = ((X, Y), E))) :
    Calls Try.prog 38 #[.agg #[.int .i64 B, .int .i64 S], .agg #[.int .i64 R, .int .i64 L]] w (Res (.tuple #[.agg #[.int .i64 X, .int .i64 Y], .int .i64 E]) w) := by
  have k0 := Keep.alloc (Keep.alloc (Keep.alloc (Keep.refl w) (.cells #[.int .i64 B, .int .i64 S] 30)) (.cells #[.int .i64 R, .int .i64 L] 54)) (.cells #[.int .i64 0, .int .i64 0] 30)
  have hrow : ∀ w' : World, w'.heap.size = w.heap.size + 1 + 1 + 1 → RowAt (w'.alloc (.cells #[.int .i64 B, .int .i64 S] 30)) (.slice (some ⟨w.heap.size + 1 + 1 + 1, 0, none⟩) 1 1) [(B, S)] := fun w' e => by rw [← e]; exact rowOne w' B S _
  have HRO := Lib.hid hrow
  clear hrow
  obtain ⟨d, e, hde⟩ : ∃ d e, delayR [(B, S)] R L = (d, e) := ⟨_, _, rfl⟩
  have HD := Lib.hid hde
  have hd := H.out
  unfold outputR at hd
  rw [hde] at hd
  dsimp only at hd
  by_cases hf : e = 0
  · subst hf
    rw [if_pos rfl] at hd
    have hok := delayR_ok (l := [(B, S)]) (R := R) (L := L) (by rw [hde])
    obtain ⟨hb, hsv, hsl⟩ := flowE_ok hok.1
    have hs := okSv_iff.1 hsv
    have bk := okBk_iff.1 (rowOne_ok hb)
    have hq := clearS_bd (R := R) (bucketsE_row hb).2.2 hs.1
    have hdd : d = L + clearS [(B, S)] R := by rw [← hok.2, hde]
    have hcl := slowD_le (B := B) hs.1 bk.2.1
    rw [clearS_one (slowAny_one hsl) hs.1 bk.2.1] at hdd hq
    have bd : 0 ≤ d ∧ d ≤ 1099780063232 := by omega
    have hc := ceil_small (S := S) (L := d) (by omega) (by omega)
    have hc0 := ceilD_nonneg (n := S * d) (d := 1048576) (by omega) (Int.mul_nonneg (by omega) bd.1)
    obtain ⟨q, hq'⟩ : ∃ q, ceilD (S * d) 1048576 = q := ⟨_, rfl⟩
    rw [hq'] at hc hc0 hd
    have hp := prod_bd (show 0 ≤ S by omega) bk.2.2.2 bd.1 bd.2
    obtain ⟨PR, hPR⟩ : ∃ PR, S * d = PR := ⟨_, rfl⟩
    rw [hPR] at hq' hp
    have HPR := Lib.hid hPR
    have HQ := Lib.hid hq'
    have HDD := Lib.hid hd
    clear hd hq' hq hcl hdd hok hsl hsv hb hde H hPR
    go_enter Try.func38, Try.ntmps38
    go_upto_region 4 with (go_at_call 34; ((with_reducible refine (refDelay_is (some ⟨w.heap.size + 1 + 1 + 1, 0, none⟩) 1 1 [(B, S)] R L d 0 _ (Lib.hid (HRO.out _ (by simp))) HD).mono ?_); rintro e w1 ⟨rfl, k1⟩; have b0 := k1.some (b := w.heap.size) (o := 0) (v := .int .i64 B) (by simp [go_sem]); have b1 := k1.some (b := w.heap.size) (o := 1) (v := .int .i64 S) (by simp [go_sem]); have r0 := k1.some (b := w.heap.size + 1 + 1) (o := 0) (v := .int .i64 0) (by simp [go_sem]); have r1 := k1.some (b := w.heap.size + 1 + 1) (o := 1) (v := .int .i64 0) (by simp [go_sem]); have z0 : w1.frozen? ⟨w.heap.size + 1 + 1, 0, none⟩ = false := (k1.frozen (by simp)).trans (by simp [go_sem]); have z1 : w1.frozen? ⟨w.heap.size + 1 + 1, 1, none⟩ = false := (k1.frozen (by simp)).trans (by simp [go_sem])))
    have kk := Lib.hid ((k0.alloc (.cells #[.int .i64 B, .int .i64 S] 30)).trans k1)
    have KW := kk
    clear k0 k1 HD HRO
    refine region_tail (h := 12) (W0 := w1) (listF [fun v ww => v = .pointer (some ⟨w.heap.size, 0, none⟩), fun v ww => v = .int .i64 B, fun v ww => v = .pointer (some ⟨w.heap.size, 1, none⟩), fun v ww => v = .int .i64 S, fun v ww => v = .int .i64 d, fun v ww => v = .int .i64 PR, fun v ww => v = .int .i64 q, fun v ww => v = .int .i64 (B + q), fun v ww => v = .pointer (some ⟨w.heap.size, 1, none⟩), fun v ww => v = .int .i64 S, fun v ww => v = .agg #[.int .i64 (B + q), .int .i64 S], fun v ww => ∃ X, v = .pointer (some ⟨X, 0, none⟩) ∧ w1.heap.size ≤ X ∧ ww.cell? ⟨X, 0, none⟩ = some (.int .i64 0) ∧ ww.cell? ⟨X, 1, none⟩ = some (.int .i64 0) ∧ ww.frozen? ⟨X, 0, none⟩ = false ∧ ww.frozen? ⟨X, 1, none⟩ = false]) (listF_stable _ ⟨fun _ _ _ _ h => h, fun _ _ _ _ h => h, fun _ _ _ _ h => h, fun _ _ _ _ h => h, fun _ _ _ _ h => h, fun _ _ _ _ h => h, fun _ _ _ _ h => h, fun _ _ _ _ h => h, fun _ _ _ _ h => h, fun _ _ _ _ h => h, fun _ _ _ _ h => h, fun _ _ _ hk ⟨X, h1, h2, h3, h4, h5, h6⟩ => ⟨X, h1, h2, hk.some h3, hk.some h4, keepThaw hk h3 h5, keepThaw hk h4 h6⟩, trivial⟩) (by kernel_rfl) (by kernel_rfl) (by kernel_rfl) (by kernel_rfl) (by kernel_rfl) (by kernel_rfl) (Keep.refl _) ?done ?steps
    case done =>
      intro T wz hJ
      obtain ⟨x0, t0, f0⟩ := hJ.fact 0 20 (by decide) (by kernel_rfl)
      obtain rfl : x0 = .pointer (some ⟨w.heap.size, 0, none⟩) := f0
      obtain ⟨x1, t1, f1⟩ := hJ.fact 1 21 (by decide) (by kernel_rfl)
      obtain rfl : x1 = .int .i64 B := f1
      obtain ⟨x2, t2, f2⟩ := hJ.fact 2 22 (by decide) (by kernel_rfl)
      obtain rfl : x2 = .pointer (some ⟨w.heap.size, 1, none⟩) := f2
      obtain ⟨x3, t3, f3⟩ := hJ.fact 3 23 (by decide) (by kernel_rfl)
      obtain rfl : x3 = .int .i64 S := f3
      obtain ⟨x4, t4, f4⟩ := hJ.fact 4 24 (by decide) (by kernel_rfl)
      obtain rfl : x4 = .int .i64 d := f4
      obtain ⟨x5, t5, f5⟩ := hJ.fact 5 25 (by decide) (by kernel_rfl)
      obtain rfl : x5 = .int .i64 PR := f5
      obtain ⟨x6, t6, f6⟩ := hJ.fact 6 26 (by decide) (by kernel_rfl)
      obtain rfl : x6 = .int .i64 q := f6
      obtain ⟨x7, t7, f7⟩ := hJ.fact 7 27 (by decide) (by kernel_rfl)
      obtain rfl : x7 = .int .i64 (B + q) := f7
      obtain ⟨x8, t8, f8⟩ := hJ.fact 8 28 (by decide) (by kernel_rfl)
      obtain rfl : x8 = .pointer (some ⟨w.heap.size, 1, none⟩) := f8
      obtain ⟨x9, t9, f9⟩ := hJ.fact 9 29 (by decide) (by kernel_rfl)
      obtain rfl : x9 = .int .i64 S := f9
      obtain ⟨x10, t10, f10⟩ := hJ.fact 10 30 (by decide) (by kernel_rfl)
      obtain rfl : x10 = .agg #[.int .i64 (B + q), .int .i64 S] := f10
      obtain ⟨x11, t11, f11⟩ := hJ.fact 11 8 (by decide) (by kernel_rfl)
      replace f11 : ∃ X, x11 = .pointer (some ⟨X, 0, none⟩) ∧ w1.heap.size ≤ X ∧ wz.cell? ⟨X, 0, none⟩ = some (.int .i64 0) ∧ wz.cell? ⟨X, 1, none⟩ = some (.int .i64 0) ∧ wz.frozen? ⟨X, 0, none⟩ = false ∧ wz.frozen? ⟨X, 1, none⟩ = false := f11
      have hfr := hJ.frameTo [(20, .pointer (some ⟨w.heap.size, 0, none⟩)), (21, .int .i64 B), (22, .pointer (some ⟨w.heap.size, 1, none⟩)), (23, .int .i64 S), (24, .int .i64 d), (25, .int .i64 PR), (26, .int .i64 q), (27, .int .i64 (B + q)), (28, .pointer (some ⟨w.heap.size, 1, none⟩)), (29, .int .i64 S), (30, .agg #[.int .i64 (B + q), .int .i64 S]), (8, x11)] (by simp [t0, t1, t2, t3, t4, t5, t6, t7, t8, t9, t10, t11]) (by kernel_rfl)
      have G := hJ.keep
      clear hJ t0 t1 t2 t3 t4 t5 t6 t7 t8 t9 t10 t11
      rw [hfr]
      clear hfr T
      simp only [List.foldl_cons, List.foldl_nil, List.setIfInBounds_toArray, List.set_cons_zero, List.set_cons_succ, List.drop_succ_cons, List.drop_zero]
      obtain ⟨X8, rfl, hX8, x0, x1, y0, y1⟩ := f11
      have kk := Lib.hid (kk.out.trans G)
      have r0' := G.some r0
      have r1' := G.some r1
      have z0' := keepThaw G r0 z0
      have z1' := keepThaw G r1 z1
      have hX8w : w.heap.size ≤ X8 := Nat.le_trans KW.out.size hX8
      have hne : ¬ X8 = w.heap.size + 1 + 1 := by have := cellBlock r0; omega
      have hd := HDD.out
      clear r0 r1 z0 z1 b0 b1
      cases ho : okBk (B + q) S with
      | true =>
        rw [ho, if_pos rfl] at hd
        obtain ⟨rfl, rfl, rfl⟩ : B + q = X ∧ S = Y ∧ 0 = E := by cases hd; exact ⟨rfl, rfl, rfl⟩
        have HC := Lib.hid ho
        clear hd ho
        go_wp2_with (go_at_call 58; ((with_reducible refine (right_is (B + q) S _ _ HC).mono ?_); rintro _ w3 ⟨rfl, k3⟩; have m0 : w3.cell? ⟨X8, 0, none⟩ = some (.int .i64 (B + q)) := k3.some (by simp [go_sem, x0]); have m1 : w3.cell? ⟨X8, 1, none⟩ = some (.int .i64 S) := k3.some (by simp [go_sem, x1]); have r2 : w3.cell? ⟨w.heap.size + 1 + 1, 0, none⟩ = some (.int .i64 0) := k3.some (by simp [go_sem, r0']); have r3 : w3.cell? ⟨w.heap.size + 1 + 1, 1, none⟩ = some (.int .i64 0) := k3.some (by simp [go_sem, r1']); have z2 : w3.frozen? ⟨w.heap.size + 1 + 1, 0, none⟩ = false := keepThaw k3 (v := .int .i64 0) (by simp [go_sem, r0']) (by simp [go_sem, z0']); have z3 : w3.frozen? ⟨w.heap.size + 1 + 1, 1, none⟩ = false := keepThaw k3 (v := .int .i64 0) (by simp [go_sem, r1']) (by simp [go_sem, z1'])))
        exact bodyPost_ret (v := .tuple #[.agg #[.int .i64 (B + q), .int .i64 S], .int .i64 0]) (by simp [results, Try.results38, go_sem, r2, r3]) rfl ⟨rfl, (((((kk.out.setCell hX8w _).setCell hX8w _).trans k3).setCell (by simp; omega) _).setCell (by simp; omega) _)⟩
      | false =>
        rw [ho] at hd
        obtain ⟨rfl, rfl, rfl⟩ : 0 = X ∧ 0 = Y ∧ 6 = E := by cases hd; exact ⟨rfl, rfl, rfl⟩
        have HC := Lib.hid ho
        clear hd ho
        go_wp2_with (go_at_call 58; ((with_reducible refine (right_is (B + q) S _ _ HC).mono ?_); rintro _ w3 ⟨rfl, k3⟩; have r2 : w3.cell? ⟨w.heap.size + 1 + 1, 0, none⟩ = some (.int .i64 0) := k3.some (by simp [go_sem, r0']); have r3 : w3.cell? ⟨w.heap.size + 1 + 1, 1, none⟩ = some (.int .i64 0) := k3.some (by simp [go_sem, r1']); have z2 : w3.frozen? ⟨w.heap.size + 1 + 1, 0, none⟩ = false := keepThaw k3 (v := .int .i64 0) (by simp [go_sem, r0']) (by simp [go_sem, z0']); have z3 : w3.frozen? ⟨w.heap.size + 1 + 1, 1, none⟩ = false := keepThaw k3 (v := .int .i64 0) (by simp [go_sem, r1']) (by simp [go_sem, z1'])))
        exact bodyPost_ret (v := .tuple #[.agg #[.int .i64 0, .int .i64 0], .int .i64 6]) (by simp [results, Try.results38, go_sem, r2, r3]) rfl ⟨rfl, (((((kk.out.setCell hX8w _).setCell hX8w _).trans k3).setCell (by simp; omega) _).setCell (by simp; omega) _)⟩
    case steps =>
      refine LinSteps.cons (k := 0) ?_ (LinSteps.cons (k := 1) ?_ (LinSteps.cons (k := 2) ?_ (LinSteps.cons (k := 3) ?_ (LinSteps.cons (k := 4) ?_ (LinSteps.cons (k := 5) ?_ (LinSteps.cons (k := 6) ?_ (LinSteps.cons (k := 7) ?_ (LinSteps.cons (k := 8) ?_ (LinSteps.cons (k := 9) ?_ (LinSteps.cons (k := 10) ?_ (LinSteps.cons (k := 11) ?_ (LinSteps.nil))))))))))))
      · -- 0
        refine LinStep.plain rfl ?_
        intro QQ bb T ww hn hJ hd K HK
        have s2 := (hJ.oldSlot 2 (by kernel_rfl))
        simp only [List.getElem?_toArray, List.getElem?_cons_zero, List.getElem?_cons_succ] at s2
        have G := hJ.keep
        clear hJ hd hn
        go_simp
        exact HK.out _ _ (Keep.refl _) rfl
      · -- 1
        refine LinStep.plain rfl ?_
        intro QQ bb T ww hn hJ hd K HK
        obtain ⟨x0, t0, f0⟩ := hJ.dep hd 0 20 (by kernel_rfl) (by kernel_rfl)
        obtain rfl : x0 = .pointer (some ⟨w.heap.size, 0, none⟩) := f0
        have G := hJ.keep
        clear hJ hd hn
        have k0 := G.some b0
        go_simp
        exact HK.out _ _ (Keep.refl _) rfl
      · -- 2
        refine LinStep.plain rfl ?_
        intro QQ bb T ww hn hJ hd K HK
        have s2 := (hJ.oldSlot 2 (by kernel_rfl))
        simp only [List.getElem?_toArray, List.getElem?_cons_zero, List.getElem?_cons_succ] at s2
        have G := hJ.keep
        clear hJ hd hn
        go_simp
        exact HK.out _ _ (Keep.refl _) rfl
      · -- 3
        refine LinStep.plain rfl ?_
        intro QQ bb T ww hn hJ hd K HK
        obtain ⟨x2, t2, f2⟩ := hJ.dep hd 2 22 (by kernel_rfl) (by kernel_rfl)
        obtain rfl : x2 = .pointer (some ⟨w.heap.size, 1, none⟩) := f2
        have G := hJ.keep
        clear hJ hd hn
        have k0 := G.some b1
        go_simp
        exact HK.out _ _ (Keep.refl _) rfl
      · -- 4
        refine LinStep.plain rfl ?_
        intro QQ bb T ww hn hJ hd K HK
        have s6 := (hJ.oldSlot 6 (by kernel_rfl))
        simp only [List.getElem?_toArray, List.getElem?_cons_zero, List.getElem?_cons_succ] at s6
        have G := hJ.keep
        clear hJ hd hn
        go_simp
        exact HK.out _ _ (Keep.refl _) rfl
      · -- 5
        refine LinStep.plain rfl ?_
        intro QQ bb T ww hn hJ hd K HK
        obtain ⟨x3, t3, f3⟩ := hJ.dep hd 3 23 (by kernel_rfl) (by kernel_rfl)
        obtain rfl : x3 = .int .i64 S := f3
        obtain ⟨x4, t4, f4⟩ := hJ.dep hd 4 24 (by kernel_rfl) (by kernel_rfl)
        obtain rfl : x4 = .int .i64 d := f4
        have G := hJ.keep
        clear hJ hd hn
        have e0 : IntKind.i64.wrap PR = PR := IntWalk.i64_in _ (by omega)
        have e1 : S * d = PR := HPR.out
        go_simp
        exact HK.out _ _ (Keep.refl _) rfl
      · -- 6
        refine LinStep.plain rfl ?_
        intro QQ bb T ww hn hJ hd K HK
        obtain ⟨x5, t5, f5⟩ := hJ.dep hd 5 25 (by kernel_rfl) (by kernel_rfl)
        obtain rfl : x5 = .int .i64 PR := f5
        have G := hJ.keep
        clear hJ hd hn
        go_wp2_with (go_at_call 62; ((with_reducible refine (ceil_is PR 1048576 q _ (by omega) (by omega) HQ).mono ?_); rintro _ w9 ⟨rfl, rfl⟩))
        exact HK.out _ _ (Keep.refl _) rfl
      · -- 7
        refine LinStep.plain rfl ?_
        intro QQ bb T ww hn hJ hd K HK
        obtain ⟨x1, t1, f1⟩ := hJ.dep hd 1 21 (by kernel_rfl) (by kernel_rfl)
        obtain rfl : x1 = .int .i64 B := f1
        obtain ⟨x6, t6, f6⟩ := hJ.dep hd 6 26 (by kernel_rfl) (by kernel_rfl)
        obtain rfl : x6 = .int .i64 q := f6
        have G := hJ.keep
        clear hJ hd hn
        have e1 : IntKind.i64.wrap (B + q) = B + q := IntWalk.i64_in _ (by omega)
        go_simp
        exact HK.out _ _ (Keep.refl _) rfl
      · -- 8
        refine LinStep.plain rfl ?_
        intro QQ bb T ww hn hJ hd K HK
        have s2 := (hJ.oldSlot 2 (by kernel_rfl))
        simp only [List.getElem?_toArray, List.getElem?_cons_zero, List.getElem?_cons_succ] at s2
        have G := hJ.keep
        clear hJ hd hn
        go_simp
        exact HK.out _ _ (Keep.refl _) rfl
      · -- 9
        refine LinStep.plain rfl ?_
        intro QQ bb T ww hn hJ hd K HK
        obtain ⟨x8, t8, f8⟩ := hJ.dep hd 8 28 (by kernel_rfl) (by kernel_rfl)
        obtain rfl : x8 = .pointer (some ⟨w.heap.size, 1, none⟩) := f8
        have G := hJ.keep
        clear hJ hd hn
        have k0 := G.some b1
        go_simp
        exact HK.out _ _ (Keep.refl _) rfl
      · -- 10
        refine LinStep.plain rfl ?_
        intro QQ bb T ww hn hJ hd K HK
        obtain ⟨x7, t7, f7⟩ := hJ.dep hd 7 27 (by kernel_rfl) (by kernel_rfl)
        obtain rfl : x7 = .int .i64 (B + q) := f7
        obtain ⟨x9, t9, f9⟩ := hJ.dep hd 9 29 (by kernel_rfl) (by kernel_rfl)
        obtain rfl : x9 = .int .i64 S := f9
        have G := hJ.keep
        clear hJ hd hn
        go_simp
        exact HK.out _ _ (Keep.refl _) rfl
      · -- 11
        refine LinStep.plain rfl ?_
        intro QQ bb T ww hn hJ hd K HK
        have G := hJ.keep
        clear hJ hd hn
        go_simp
        exact HK.out _ _ (Keep.alloc (Keep.refl _) _) (⟨_, rfl, G.size, by simp [go_sem], by simp [go_sem], by simp [go_sem], by simp [go_sem]⟩)
  · rw [if_neg hf] at hd
    obtain ⟨rfl, rfl, rfl⟩ : 0 = X ∧ 0 = Y ∧ e = E := by cases hd; exact ⟨rfl, rfl, rfl⟩
    have e1 : (e == 0) = false := by simp [hf]
    have e2 : (e != 0) = true := by simp [hf]
    clear hd H hde
    go_enter Try.func38, Try.ntmps38
    go_wp2_with (go_at_call 34; ((with_reducible refine (refDelay_is (some ⟨w.heap.size + 1 + 1 + 1, 0, none⟩) 1 1 [(B, S)] R L d e _ (Lib.hid (HRO.out _ (by simp))) HD).mono ?_); rintro _ w1 ⟨rfl, k1⟩; have r0 := k1.some (b := w.heap.size + 1 + 1) (o := 0) (v := .int .i64 0) (by simp [go_sem]); have r1 := k1.some (b := w.heap.size + 1 + 1) (o := 1) (v := .int .i64 0) (by simp [go_sem]); have z0 : w1.frozen? ⟨w.heap.size + 1 + 1, 0, none⟩ = false := (k1.frozen (by simp)).trans (by simp [go_sem]); have z1 : w1.frozen? ⟨w.heap.size + 1 + 1, 1, none⟩ = false := (k1.frozen (by simp)).trans (by simp [go_sem])))
    exact bodyPost_ret (v := .tuple #[.agg #[.int .i64 0, .int .i64 0], .int .i64 e]) (by simp [results, Try.results38, go_sem, r0, r1]) rfl ⟨rfl, (((k0.alloc _).trans k1).setCell (by simp; omega) _).setCell (by simp; omega) _⟩

set_option maxRecDepth 100000 in
set_option maxHeartbeats 4000000 in
theorem refJoin_is (R1 L1 R2 L2 X Y E : Int) (w : World) (H : Hid (joinR R1 L1 R2 L2 = ((X, Y), E))) :
    Calls Try.prog 29 #[.agg #[.int .i64 R1, .int .i64 L1], .agg #[.int .i64 R2, .int .i64 L2]] w (Res (.tuple #[.agg #[.int .i64 X, .int .i64 Y], .int .i64 E]) w) := by
  obtain ⟨W0, hW0⟩ : ∃ W0, ((w.alloc (.cells #[.int .i64 R1, .int .i64 L1] 54)).alloc (.cells #[.int .i64 R2, .int .i64 L2] 54)).alloc (.cells #[.int .i64 0, .int .i64 0] 54) = W0 := ⟨_, rfl⟩
  have k0 : Keep w W0 := by rw [← hW0]; exact ((Keep.alloc (Keep.refl w) _).alloc _).alloc _
  have a0 : W0.cell? ⟨w.heap.size, 0, none⟩ = some (.int .i64 R1) := by rw [← hW0]; simp [go_sem]
  have a1 : W0.cell? ⟨w.heap.size, 1, none⟩ = some (.int .i64 L1) := by rw [← hW0]; simp [go_sem]
  have b0 : W0.cell? ⟨w.heap.size + 1, 0, none⟩ = some (.int .i64 R2) := by rw [← hW0]; simp [go_sem]
  have b1 : W0.cell? ⟨w.heap.size + 1, 1, none⟩ = some (.int .i64 L2) := by rw [← hW0]; simp [go_sem]
  have r0 : W0.cell? ⟨w.heap.size + 1 + 1, 0, none⟩ = some (.int .i64 0) := by rw [← hW0]; simp [go_sem]
  have r1 : W0.cell? ⟨w.heap.size + 1 + 1, 1, none⟩ = some (.int .i64 0) := by rw [← hW0]; simp [go_sem]
  have z0 : W0.frozen? ⟨w.heap.size + 1 + 1, 0, none⟩ = false := by rw [← hW0]; simp [go_sem]
  have z1 : W0.frozen? ⟨w.heap.size + 1 + 1, 1, none⟩ = false := by rw [← hW0]; simp [go_sem]
  have hd := H.out
  unfold joinR at hd
  cases o1 : okSv R1 L1 with
  | false =>
    rw [o1] at hd
    obtain ⟨rfl, rfl, rfl⟩ : 0 = X ∧ 0 = Y ∧ 140 = E := by cases hd; exact ⟨rfl, rfl, rfl⟩
    have H1 := Lib.hid o1
    clear hd o1 H
    go_enter Try.func29, Try.ntmps29
    go_wp2_with fail
    clear hW0
    go_at_call 55
    refine (rightSv_is R1 L1 _ _ H1).mono ?_
    rintro _ w1 ⟨rfl, k1⟩
    have z0 := keepThaw k1 r0 z0
    have z1 := keepThaw k1 r1 z1
    have a0 := k1.some a0
    have a1 := k1.some a1
    have b0 := k1.some b0
    have b1 := k1.some b1
    have r0 := k1.some r0
    have r1 := k1.some r1
    have ha0 := cellBlock a0
    have hb0 := cellBlock b0
    have hr0 := cellBlock r0
    go_wp2
    exact bodyPost_ret (v := .tuple #[.agg #[.int .i64 0, .int .i64 0], .int .i64 140]) (by simp [results, Try.results29, go_sem, r0, r1]) rfl ⟨rfl, ((k0.trans k1).setCell (by simp; omega) _).setCell (by simp; omega) _⟩
  | true =>
    have s1 := okSv_iff.1 o1
    have H1 := Lib.hid o1
    cases o2 : okSv R2 L2 with
    | false =>
      rw [o1, o2] at hd
      obtain ⟨rfl, rfl, rfl⟩ : 0 = X ∧ 0 = Y ∧ 140 = E := by cases hd; exact ⟨rfl, rfl, rfl⟩
      have H2 := Lib.hid o2
      clear hd o1 o2 H
      go_enter Try.func29, Try.ntmps29
      go_wp2_with fail
      clear hW0
      go_at_call 55
      refine (rightSv_is R1 L1 _ _ H1).mono ?_
      rintro _ w1 ⟨rfl, k1⟩
      have z0 := keepThaw k1 r0 z0
      have z1 := keepThaw k1 r1 z1
      have a0 := k1.some a0
      have a1 := k1.some a1
      have b0 := k1.some b0
      have b1 := k1.some b1
      have r0 := k1.some r0
      have r1 := k1.some r1
      have ha0 := cellBlock a0
      have hb0 := cellBlock b0
      have hr0 := cellBlock r0
      go_wp2_with fail
      go_at_call 55
      refine (rightSv_is R2 L2 _ _ H2).mono ?_
      rintro _ w2 ⟨rfl, k2⟩
      have z0 := keepThaw k2 r0 z0
      have z1 := keepThaw k2 r1 z1
      have a0 := k2.some a0
      have a1 := k2.some a1
      have b0 := k2.some b0
      have b1 := k2.some b1
      have r0 := k2.some r0
      have r1 := k2.some r1
      have ha0 := cellBlock a0
      have hb0 := cellBlock b0
      have hr0 := cellBlock r0
      go_wp2
      exact bodyPost_ret (v := .tuple #[.agg #[.int .i64 0, .int .i64 0], .int .i64 140]) (by simp [results, Try.results29, go_sem, r0, r1]) rfl ⟨rfl, (((k0.trans k1).trans k2).setCell (by simp; omega) _).setCell (by simp; omega) _⟩
    | true =>
      have s2 := okSv_iff.1 o2
      have H2 := Lib.hid o2
      rw [o1, o2] at hd
      obtain ⟨m, hm⟩ : ∃ m, min R1 R2 = m := ⟨_, rfl⟩
      have bm : 1 ≤ m ∧ m ≤ 2097152 := by omega
      rw [hm] at hd
      by_cases hle : L1 + L2 ≤ 268435456
      · have H3 : Hid (okSv m (L1 + L2) = true) := Lib.hid (okSv_iff.2 (by omega))
        rw [if_pos (by rfl), if_pos hle] at hd
        obtain ⟨rfl, rfl, rfl⟩ : m = X ∧ L1 + L2 = Y ∧ 0 = E := by cases hd; exact ⟨rfl, rfl, rfl⟩
        clear hd o1 o2 H
        go_enter Try.func29, Try.ntmps29
        go_wp2_with fail
        clear hW0
        go_at_call 55
        refine (rightSv_is R1 L1 _ _ H1).mono ?_
        rintro _ w1 ⟨rfl, k1⟩
        have z0 := keepThaw k1 r0 z0
        have z1 := keepThaw k1 r1 z1
        have a0 := k1.some a0
        have a1 := k1.some a1
        have b0 := k1.some b0
        have b1 := k1.some b1
        have r0 := k1.some r0
        have r1 := k1.some r1
        have ha0 := cellBlock a0
        have hb0 := cellBlock b0
        have hr0 := cellBlock r0
        go_wp2_with fail
        go_at_call 55
        refine (rightSv_is R2 L2 _ _ H2).mono ?_
        rintro _ w2 ⟨rfl, k2⟩
        have z0 := keepThaw k2 r0 z0
        have z1 := keepThaw k2 r1 z1
        have a0 := k2.some a0
        have a1 := k2.some a1
        have b0 := k2.some b0
        have b1 := k2.some b1
        have r0 := k2.some r0
        have r1 := k2.some r1
        have ha0 := cellBlock a0
        have hb0 := cellBlock b0
        have hr0 := cellBlock r0
        go_wp2_with fail
        go_at_call 55
        refine (rightSv_is m (L1 + L2) _ _ H3).mono ?_
        rintro _ w3 ⟨rfl, k3⟩
        have z0 := keepThaw k3 (cell_alloc_old (.cells #[.int .i64 m, .int .i64 (L1 + L2)] 54) r0) (thaw_alloc #[.int .i64 m, .int .i64 (L1 + L2)] 54 z0)
        have z1 := keepThaw k3 (cell_alloc_old (.cells #[.int .i64 m, .int .i64 (L1 + L2)] 54) r1) (thaw_alloc #[.int .i64 m, .int .i64 (L1 + L2)] 54 z1)
        have r0 := k3.some (cell_alloc_old (.cells #[.int .i64 m, .int .i64 (L1 + L2)] 54) r0)
        have r1 := k3.some (cell_alloc_old (.cells #[.int .i64 m, .int .i64 (L1 + L2)] 54) r1)
        have n0 : w3.cell? ⟨w2.heap.size, 0, none⟩ = some (.int .i64 m) := k3.some (by simp [go_sem])
        have n1 : w3.cell? ⟨w2.heap.size, 1, none⟩ = some (.int .i64 (L1 + L2)) := k3.some (by simp [go_sem])
        go_wp2
        exact bodyPost_ret (v := .tuple #[.agg #[.int .i64 m, .int .i64 (L1 + L2)], .int .i64 0]) (by simp [results, Try.results29, go_sem, r0, r1]) rfl ⟨rfl, (((((k0.trans k1).trans k2).alloc _).trans k3).setCell (by simp; omega) _).setCell (by simp; omega) _⟩
      · have hle' : 268435456 < L1 + L2 := by omega
        have H3 : Hid (okSv m (L1 + L2) = false) := Lib.hid (by
          cases h : okSv m (L1 + L2) with
          | false => rfl
          | true => have := okSv_iff.1 h; omega)
        rw [if_pos (by rfl), if_neg hle] at hd
        obtain ⟨rfl, rfl, rfl⟩ : 0 = X ∧ 0 = Y ∧ 6 = E := by cases hd; exact ⟨rfl, rfl, rfl⟩
        clear hd o1 o2 H
        go_enter Try.func29, Try.ntmps29
        go_wp2_with fail
        clear hW0
        go_at_call 55
        refine (rightSv_is R1 L1 _ _ H1).mono ?_
        rintro _ w1 ⟨rfl, k1⟩
        have z0 := keepThaw k1 r0 z0
        have z1 := keepThaw k1 r1 z1
        have a0 := k1.some a0
        have a1 := k1.some a1
        have b0 := k1.some b0
        have b1 := k1.some b1
        have r0 := k1.some r0
        have r1 := k1.some r1
        have ha0 := cellBlock a0
        have hb0 := cellBlock b0
        have hr0 := cellBlock r0
        go_wp2_with fail
        go_at_call 55
        refine (rightSv_is R2 L2 _ _ H2).mono ?_
        rintro _ w2 ⟨rfl, k2⟩
        have z0 := keepThaw k2 r0 z0
        have z1 := keepThaw k2 r1 z1
        have a0 := k2.some a0
        have a1 := k2.some a1
        have b0 := k2.some b0
        have b1 := k2.some b1
        have r0 := k2.some r0
        have r1 := k2.some r1
        have ha0 := cellBlock a0
        have hb0 := cellBlock b0
        have hr0 := cellBlock r0
        go_wp2_with fail
        go_at_call 55
        refine (rightSv_is m (L1 + L2) _ _ H3).mono ?_
        rintro _ w3 ⟨rfl, k3⟩
        have z0 := keepThaw k3 (cell_alloc_old (.cells #[.int .i64 m, .int .i64 (L1 + L2)] 54) r0) (thaw_alloc #[.int .i64 m, .int .i64 (L1 + L2)] 54 z0)
        have z1 := keepThaw k3 (cell_alloc_old (.cells #[.int .i64 m, .int .i64 (L1 + L2)] 54) r1) (thaw_alloc #[.int .i64 m, .int .i64 (L1 + L2)] 54 z1)
        have r0 := k3.some (cell_alloc_old (.cells #[.int .i64 m, .int .i64 (L1 + L2)] 54) r0)
        have r1 := k3.some (cell_alloc_old (.cells #[.int .i64 m, .int .i64 (L1 + L2)] 54) r1)
        go_wp2
        exact bodyPost_ret (v := .tuple #[.agg #[.int .i64 0, .int .i64 0], .int .i64 6]) (by simp [results, Try.results29, go_sem, r0, r1]) rfl ⟨rfl, (((((k0.trans k1).trans k2).alloc _).trans k3).setCell (by simp; omega) _).setCell (by simp; omega) _⟩

end Go.Proofs.Ytmamadgikjkjdaa
