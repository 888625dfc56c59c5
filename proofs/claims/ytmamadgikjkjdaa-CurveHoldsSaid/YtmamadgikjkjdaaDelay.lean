/- What Delay and Backlog of the package curve return. -/
import Derived.Test.YtmamadgikjkjdaaTime
import Derived.Test.YtmamadgikjkjdaaLimit
namespace Go.Proofs.Ytmamadgikjkjdaa
open Go Go.RowKit

theorem minL_bd : ∀ (l : List Int) (m : Int), 0 ≤ m → (∀ x ∈ l, 0 ≤ x) → 0 ≤ minL m l ∧ minL m l ≤ m
  | [], m, hm, _ => ⟨hm, Int.le_refl _⟩
  | x :: l, m, hm, h => by
    have hx := h x (by simp)
    have := minL_bd l (min m x) (by omega) (fun y hy => h y (by simp [hy]))
    have e : minL m (x :: l) = minL (min m x) l := rfl
    rw [e]; omega
theorem innerL_nonneg {a s : Nat → Int} {R Bb Sb : Int} {n : Nat} (hok : okEach a s n = true) (hR : 1 ≤ R) (hBb : 0 ≤ Bb) (hSb : Sb ≤ R) : ∀ j, j ≤ n → ∀ x ∈ innerL a s R Bb Sb j, 0 ≤ x
  | 0, _, x, hx => by simp [innerL] at hx
  | j + 1, hj, x, hx => by
    simp only [innerL, List.mem_append] at hx
    rcases hx with hx | hx
    · exact innerL_nonneg hok hR hBb hSb j (by omega) x hx
    · split at hx
      · rename_i h
        simp only [List.mem_singleton] at hx
        subst hx
        have bk := okBk_iff.1 (okEach_at hok (show j < n by omega))
        exact cross_nonneg hR h.1 hSb (by omega) hBb
      · simp at hx
theorem outerL_nonneg {a s : Nat → Int} {R : Int} {n : Nat} (hok : okEach a s n = true) (hR : 1 ≤ R) : ∀ k, k ≤ n → ∀ x ∈ outerL a s R n k, 0 ≤ x
  | 0, _, x, hx => by simp [outerL] at hx
  | k + 1, hk, x, hx => by
    simp only [outerL, List.mem_append] at hx
    have bk := okBk_iff.1 (okEach_at hok (show k < n by omega))
    rcases hx with hx | hx
    · exact outerL_nonneg hok hR k (by omega) x hx
    · split at hx
      · rename_i h
        rcases List.mem_cons.1 hx with rfl | hx
        · exact ceilD_nonneg (by omega) (by omega)
        · exact innerL_nonneg hok hR (by omega) h n (Nat.le_refl _) x hx
      · simp at hx
theorem clearS_bd {l : List (Int × Int)} {R : Int} (hok : okEach (atL l) (szL l) l.length = true) (hR : 1 ≤ R) : 0 ≤ clearS l R ∧ clearS l R ≤ 1125899906842624 :=
  minL_bd _ _ (by omega) (outerL_nonneg hok hR _ (Nat.le_refl _))
theorem serveE_ok {R L : Int} (h : serveE R L = 0) : okSv R L = true := by
  unfold serveE at h
  split at h
  · assumption
  · cases h
theorem flowE_ok {l : List (Int × Int)} {R L : Int} (h : flowE l R L = 0) : bucketsE l = 0 ∧ okSv R L = true ∧ slowAny l R = true := by
  unfold flowE at h
  split at h
  · contradiction
  · split at h
    · contradiction
    · split at h
      · exact ⟨Decidable.not_not.1 (by assumption), serveE_ok (Decidable.not_not.1 (by assumption)), by assumption⟩
      · cases h

/-- Delay's results. -/
def delayR (l : List (Int × Int)) (R L : Int) : Int × Int := if flowE l R L = 0 then (L + clearS l R, 0) else (0, flowE l R L)
set_option maxRecDepth 100000 in
set_option maxHeartbeats 1000000 in
theorem delay_is (a0 : Option Addr) (len cap : Nat) (l : List (Int × Int)) (R L d E : Int) (w : World) (h : Hid (RowAt w (.slice a0 len cap) l)) (H : Hid (delayR l R L = (d, E))) :
    Calls Try.prog 33 #[.slice a0 len cap, .agg #[.int .i64 R, .int .i64 L]] w (Res (.tuple #[.int .i64 d, .int .i64 E]) w) := by
  have k0 := Keep.alloc (Keep.refl w) (.cells #[.int .i64 R, .int .i64 L] 54)
  have HR0 := Lib.hid (h.out.keep k0)
  by_cases hf : flowE l R L = 0
  · have hd := H.out
    unfold delayR at hd
    rw [if_pos hf] at hd
    obtain ⟨hb, hsv, _⟩ := flowE_ok hf
    have hs := okSv_iff.1 hsv
    have hR : 1 ≤ R ∧ R ≤ 2097152 := ⟨hs.1, hs.2.1⟩
    have bq := clearS_bd (R := R) (bucketsE_row hb).2.2 hR.1
    obtain ⟨q, hq⟩ : ∃ q, clearS l R = q := ⟨_, rfl⟩
    rw [hq] at bq hd
    have HQ := Lib.hid hq
    have HF := Lib.hid hf
    obtain ⟨rfl, rfl⟩ : d = L + q ∧ E = 0 := by cases hd; exact ⟨rfl, rfl⟩
    clear hd hq hf H h hsv
    go_enter Try.func33, Try.ntmps33
    go_upto_region 4 with (go_at_call 56; ((with_reducible refine (checkFlow_is a0 len cap l R L 0 _ HR0 HF).mono ?_); rintro e w1 ⟨rfl, k1⟩; have c0 := k1.some (b := w.heap.size) (o := 0) (v := .int .i64 R) (by simp [go_sem]); have c1 := k1.some (b := w.heap.size) (o := 1) (v := .int .i64 L) (by simp [go_sem])))
    have k0 := k0.trans k1
    have HR := Lib.hid (HR0.out.keep k1)
    clear HR0 k1
    refine region_lin (W0 := w1) (listF [fun v ww => v = .pointer (some ⟨w.heap.size, 1, none⟩), fun v ww => v = .int .i64 L, fun v ww => v = .slice a0 len cap, fun v ww => v = .pointer (some ⟨w.heap.size, 0, none⟩), fun v ww => v = .int .i64 R, fun v ww => v = .int .i64 q, fun v ww => v = .int .i64 (L + q), fun v ww => v = .int .i64 (L + q), fun v ww => v = .int .i64 0]) (listF_stable _ ⟨fun _ _ _ _ h => h, fun _ _ _ _ h => h, fun _ _ _ _ h => h, fun _ _ _ _ h => h, fun _ _ _ _ h => h, fun _ _ _ _ h => h, fun _ _ _ _ h => h, fun _ _ _ _ h => h, fun _ _ _ _ h => h, trivial⟩) (by kernel_rfl) (by kernel_rfl) (by kernel_rfl) (by kernel_rfl) (Keep.refl _) ?done ?steps
    case done =>
      intro T wz hJ
      obtain ⟨x0, t0, f0⟩ := hJ.fact 0 13 (by decide) (by kernel_rfl)
      obtain rfl : x0 = .pointer (some ⟨w.heap.size, 1, none⟩) := f0
      obtain ⟨x1, t1, f1⟩ := hJ.fact 1 14 (by decide) (by kernel_rfl)
      obtain rfl : x1 = .int .i64 L := f1
      obtain ⟨x2, t2, f2⟩ := hJ.fact 2 15 (by decide) (by kernel_rfl)
      obtain rfl : x2 = .slice a0 len cap := f2
      obtain ⟨x3, t3, f3⟩ := hJ.fact 3 16 (by decide) (by kernel_rfl)
      obtain rfl : x3 = .pointer (some ⟨w.heap.size, 0, none⟩) := f3
      obtain ⟨x4, t4, f4⟩ := hJ.fact 4 17 (by decide) (by kernel_rfl)
      obtain rfl : x4 = .int .i64 R := f4
      obtain ⟨x5, t5, f5⟩ := hJ.fact 5 18 (by decide) (by kernel_rfl)
      obtain rfl : x5 = .int .i64 q := f5
      obtain ⟨x6, t6, f6⟩ := hJ.fact 6 19 (by decide) (by kernel_rfl)
      obtain rfl : x6 = .int .i64 (L + q) := f6
      obtain ⟨x7, t7, f7⟩ := hJ.fact 7 4 (by decide) (by kernel_rfl)
      obtain rfl : x7 = .int .i64 (L + q) := f7
      obtain ⟨x8, t8, f8⟩ := hJ.fact 8 5 (by decide) (by kernel_rfl)
      obtain rfl : x8 = .int .i64 0 := f8
      have hfr := hJ.frame [(13, .pointer (some ⟨w.heap.size, 1, none⟩)), (14, .int .i64 L), (15, .slice a0 len cap), (16, .pointer (some ⟨w.heap.size, 0, none⟩)), (17, .int .i64 R), (18, .int .i64 q), (19, .int .i64 (L + q)), (4, .int .i64 (L + q)), (5, .int .i64 0)] (by simp [t0, t1, t2, t3, t4, t5, t6, t7, t8]) (by kernel_rfl)
      have G := hJ.keep
      clear hJ t0 t1 t2 t3 t4 t5 t6 t7 t8
      rw [hfr]
      clear hfr T
      simp only [List.foldl_cons, List.foldl_nil, List.setIfInBounds_toArray, List.set_cons_zero, List.set_cons_succ]
      go_wp2
      go_ret2
      exact ⟨rfl, k0.trans G⟩
    case steps =>
      refine LinSteps.cons (k := 0) ?_ (LinSteps.cons (k := 1) ?_ (LinSteps.cons (k := 2) ?_ (LinSteps.cons (k := 3) ?_ (LinSteps.cons (k := 4) ?_ (LinSteps.cons (k := 5) ?_ (LinSteps.cons (k := 6) ?_ (LinSteps.cons (k := 7) ?_ (LinSteps.cons (k := 8) ?_ (LinSteps.nil)))))))))
      · -- 0
        refine LinStep.plain rfl ?_
        intro QQ bb T ww hn hJ hd K HK
        have s3 := (hJ.oldSlot 3 (by kernel_rfl))
        simp only [List.getElem?_toArray, List.getElem?_cons_zero, List.getElem?_cons_succ] at s3
        have G := hJ.keep
        clear hJ hd hn
        go_simp
        exact HK.out _ _ (Keep.refl _) rfl
      · -- 1
        refine LinStep.plain rfl ?_
        intro QQ bb T ww hn hJ hd K HK
        obtain ⟨x0, t0, f0⟩ := hJ.dep hd 0 13 (by kernel_rfl) (by kernel_rfl)
        obtain rfl : x0 = .pointer (some ⟨w.heap.size, 1, none⟩) := f0
        have G := hJ.keep
        clear hJ hd hn
        have k0 := G.some c1
        go_simp
        exact HK.out _ _ (Keep.refl _) rfl
      · -- 2
        refine LinStep.plain rfl ?_
        intro QQ bb T ww hn hJ hd K HK
        have s0 := (hJ.oldSlot 0 (by kernel_rfl))
        simp only [List.getElem?_toArray, List.getElem?_cons_zero] at s0
        have G := hJ.keep
        clear hJ hd hn
        go_simp
        exact HK.out _ _ (Keep.refl _) rfl
      · -- 3
        refine LinStep.plain rfl ?_
        intro QQ bb T ww hn hJ hd K HK
        have s3 := (hJ.oldSlot 3 (by kernel_rfl))
        simp only [List.getElem?_toArray, List.getElem?_cons_zero, List.getElem?_cons_succ] at s3
        have G := hJ.keep
        clear hJ hd hn
        go_simp
        exact HK.out _ _ (Keep.refl _) rfl
      · -- 4
        refine LinStep.plain rfl ?_
        intro QQ bb T ww hn hJ hd K HK
        obtain ⟨x3, t3, f3⟩ := hJ.dep hd 3 16 (by kernel_rfl) (by kernel_rfl)
        obtain rfl : x3 = .pointer (some ⟨w.heap.size, 0, none⟩) := f3
        have G := hJ.keep
        clear hJ hd hn
        have k0 := G.some c0
        go_simp
        exact HK.out _ _ (Keep.refl _) rfl
      · -- 5
        refine LinStep.plain rfl ?_
        intro QQ bb T ww hn hJ hd K HK
        obtain ⟨x2, t2, f2⟩ := hJ.dep hd 2 15 (by kernel_rfl) (by kernel_rfl)
        obtain rfl : x2 = .slice a0 len cap := f2
        obtain ⟨x4, t4, f4⟩ := hJ.dep hd 4 17 (by kernel_rfl) (by kernel_rfl)
        obtain rfl : x4 = .int .i64 R := f4
        have G := hJ.keep
        clear hJ hd hn
        have HRw := Lib.hid (HR.out.keep G)
        go_wp2_with (go_at_call 57; ((with_reducible refine (clearingTime_is _ l R q _ hR hb HRw HQ).mono ?_); rintro _ w1 ⟨rfl, hk⟩))
        exact HK.out _ _ hk rfl
      · -- 6
        refine LinStep.plain rfl ?_
        intro QQ bb T ww hn hJ hd K HK
        obtain ⟨x1, t1, f1⟩ := hJ.dep hd 1 14 (by kernel_rfl) (by kernel_rfl)
        obtain rfl : x1 = .int .i64 L := f1
        obtain ⟨x5, t5, f5⟩ := hJ.dep hd 5 18 (by kernel_rfl) (by kernel_rfl)
        obtain rfl : x5 = .int .i64 q := f5
        have G := hJ.keep
        clear hJ hd hn
        have e1 : IntKind.i64.wrap (L + q) = L + q := IntWalk.i64_in _ (by omega)
        go_simp
        exact HK.out _ _ (Keep.refl _) rfl
      · -- 7
        refine LinStep.plain rfl ?_
        intro QQ bb T ww hn hJ hd K HK
        obtain ⟨x6, t6, f6⟩ := hJ.dep hd 6 19 (by kernel_rfl) (by kernel_rfl)
        obtain rfl : x6 = .int .i64 (L + q) := f6
        have G := hJ.keep
        clear hJ hd hn
        go_simp
        exact HK.out _ _ (Keep.refl _) rfl
      · -- 8
        refine LinStep.plain rfl ?_
        intro QQ bb T ww hn hJ hd K HK
        have G := hJ.keep
        clear hJ hd hn
        go_simp
        exact HK.out _ _ (Keep.refl _) rfl
  · have hd := H.out
    unfold delayR at hd
    rw [if_neg hf] at hd
    obtain ⟨F, hF⟩ : ∃ F, flowE l R L = F := ⟨_, rfl⟩
    rw [hF] at hd hf
    have HF := Lib.hid hF
    obtain ⟨rfl, rfl⟩ : d = 0 ∧ E = F := by cases hd; exact ⟨rfl, rfl⟩
    have e1 : (E == 0) = false := by simp [hf]
    have e2 : (E != 0) = true := by simp [hf]
    clear hd hF H h
    go_enter Try.func33, Try.ntmps33
    go_wp2_with (go_at_call 56; ((with_reducible refine (checkFlow_is a0 len cap l R L E _ HR0 HF).mono ?_); rintro e w1 ⟨rfl, k1⟩))
    go_ret2
    exact ⟨rfl, k0.trans k1⟩

/-- Backlog's results. -/
def backlogR (B S R L : Int) : Int × Int := if flowE [(B, S)] R L = 0 then (B + ceilD (S * L) 1048576, 0) else (0, flowE [(B, S)] R L)
theorem rowOne (w : World) (B S : Int) (t : TypeId) : RowAt (w.alloc (.cells #[.int .i64 B, .int .i64 S] t)) (.slice (some ⟨w.heap.size, 0, none⟩) 1 1) [(B, S)] :=
  Or.inr ⟨w.heap.size, 0, 1, 1, rfl, rfl, by omega, fun j hj => (by (obtain rfl : j = 0 := by omega); simp [go_sem, atL]), fun j hj => (by (obtain rfl : j = 0 := by omega); simp [go_sem, szL])⟩
theorem rowOne_ok {B S : Int} (h : bucketsE [(B, S)] = 0) : okBk B S = true := (okEach_at (k := 0) (bucketsE_row h).2.2 (by simp))
theorem ceil_small {S L : Int} (hS : 0 ≤ S ∧ S ≤ 2097152) (hL : 0 ≤ L ∧ L ≤ 281474976710656) : ceilD (S * L) 1048576 ≤ 1125899906842624 :=
  ceilD_le (by omega) (by have := (prod_bd hS.1 hS.2 hL.1 hL.2).2; omega)

set_option maxRecDepth 100000 in
set_option maxHeartbeats 1000000 in
theorem backlog_is (B S R L d E : Int) (w : World) (H : Hid (backlogR B S R L = (d, E))) :
    Calls Try.prog 35 #[.agg #[.int .i64 B, .int .i64 S], .agg #[.int .i64 R, .int .i64 L]] w (Res (.tuple #[.int .i64 d, .int .i64 E]) w) := by
  have k0 := Keep.alloc (Keep.alloc (Keep.refl w) (.cells #[.int .i64 B, .int .i64 S] 30)) (.cells #[.int .i64 R, .int .i64 L] 54)
  have hrow : ∀ w' : World, w'.heap.size = w.heap.size + 1 + 1 → RowAt (w'.alloc (.cells #[.int .i64 B, .int .i64 S] 30)) (.slice (some ⟨w.heap.size + 1 + 1, 0, none⟩) 1 1) [(B, S)] := fun w' e => by rw [← e]; exact rowOne w' B S _
  have HRO := Lib.hid hrow
  clear hrow
  by_cases hf : flowE [(B, S)] R L = 0
  · have hd := H.out
    unfold backlogR at hd
    rw [if_pos hf] at hd
    obtain ⟨hb, hsv, _⟩ := flowE_ok hf
    have hs := okSv_iff.1 hsv
    have bk := okBk_iff.1 (rowOne_ok hb)
    have hc := ceil_small (S := S) (L := L) (by omega) (by omega)
    obtain ⟨q, hq⟩ : ∃ q, ceilD (S * L) 1048576 = q := ⟨_, rfl⟩
    rw [hq] at hc hd
    have HQ := Lib.hid hq
    have HF := Lib.hid hf
    obtain ⟨rfl, rfl⟩ : d = B + q ∧ E = 0 := by cases hd; exact ⟨rfl, rfl⟩
    clear hd hq hf H hsv
    go_enter Try.func35, Try.ntmps35
    go_wp2_with (first | (go_at_call 56; ((with_reducible refine (checkFlow_is (some ⟨w.heap.size + 1 + 1, 0, none⟩) 1 1 [(B, S)] R L 0 _ (Lib.hid (HRO.out _ (by simp))) HF).mono ?_); rintro e w1 ⟨rfl, k1⟩; have b0 := k1.some (b := w.heap.size) (o := 0) (v := .int .i64 B) (by simp [go_sem]); have b1 := k1.some (b := w.heap.size) (o := 1) (v := .int .i64 S) (by simp [go_sem]); have c1 := k1.some (b := w.heap.size + 1) (o := 1) (v := .int .i64 L) (by simp [go_sem]))) | (go_at_call 61; ((with_reducible refine (limit_is B S L q _ (by omega) (by omega) (by omega) hc HQ).mono ?_); rintro e w2 ⟨rfl, k2⟩)))
    go_ret2
    exact ⟨rfl, ((k0.alloc _).trans k1).trans k2⟩
  · have hd := H.out
    unfold backlogR at hd
    rw [if_neg hf] at hd
    obtain ⟨F, hF⟩ : ∃ F, flowE [(B, S)] R L = F := ⟨_, rfl⟩
    rw [hF] at hd hf
    have HF := Lib.hid hF
    obtain ⟨rfl, rfl⟩ : d = 0 ∧ E = F := by cases hd; exact ⟨rfl, rfl⟩
    have e1 : (E == 0) = false := by simp [hf]
    have e2 : (E != 0) = true := by simp [hf]
    clear hd hF H
    go_enter Try.func35, Try.ntmps35
    go_wp2_with (go_at_call 56; ((with_reducible refine (checkFlow_is (some ⟨w.heap.size + 1 + 1, 0, none⟩) 1 1 [(B, S)] R L E _ (Lib.hid (HRO.out _ (by simp))) HF).mono ?_); rintro e w1 ⟨rfl, k1⟩))
    go_ret2
    exact ⟨rfl, (k0.alloc _).trans k1⟩

end Go.Proofs.Ytmamadgikjkjdaa
