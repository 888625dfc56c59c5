/- What limit of the package curve returns: how much a bucket allows in some ticks, rounded up. -/
import Derived.Test.YtmamadgikjkjdaaServe
import Derived.Test.YtmamadgikjkjdaaLin
import Derived.Deep.Cut
namespace Go.Proofs.Ytmamadgikjkjdaa
open Go Go.RowKit

set_option maxRecDepth 100000 in
theorem limit_is (B R t q : Int) (w : World) (hB : 0 ≤ B ∧ B ≤ 1125899906842624) (hR : 0 ≤ R ∧ R ≤ 1125899906842624) (ht : 0 ≤ t ∧ t ≤ 1125899906842624) (hq : q ≤ 1125899906842624) (H : Hid (ceilD (R * t) 1048576 = q)) :
    Calls Try.prog 61 #[.agg #[.int .i64 B, .int .i64 R], .int .i64 t] w (Res (.int .i64 (B + q)) w) := by
  have hq0 : 0 ≤ q := by rw [← H.out]; exact ceilD_nonneg (by omega) (Int.mul_nonneg hR.1 ht.1)
  have k0 := Keep.alloc (Keep.refl w) (.cells #[.int .i64 B, .int .i64 R] 30)
  have c0 : (w.alloc (.cells #[.int .i64 B, .int .i64 R] 30)).cell? ⟨w.heap.size, 0, none⟩ = some (.int .i64 B) := by simp [go_sem]
  have c1 : (w.alloc (.cells #[.int .i64 B, .int .i64 R] 30)).cell? ⟨w.heap.size, 1, none⟩ = some (.int .i64 R) := by simp [go_sem]
  go_enter Try.func61, Try.ntmps61
  go_upto_region 1 with fail
  generalize w.alloc (.cells #[.int .i64 B, .int .i64 R] 30) = W0 at c0 c1 k0 ⊢
  refine region_lin (W0 := W0) (listF [fun v ww => v = .pointer (some ⟨w.heap.size, 0, none⟩), fun v ww => v = .int .i64 B, fun v ww => v = .pointer (some ⟨w.heap.size, 1, none⟩), fun v ww => v = .int .i64 R, fun v ww => v = .int .i64 t, fun v ww => v = .int .i64 q, fun v ww => v = .int .i64 (B + q), fun v ww => v = .int .i64 (B + q)]) (listF_stable _ ⟨fun _ _ _ _ h => h, fun _ _ _ _ h => h, fun _ _ _ _ h => h, fun _ _ _ _ h => h, fun _ _ _ _ h => h, fun _ _ _ _ h => h, fun _ _ _ _ h => h, fun _ _ _ _ h => h, trivial⟩) (by kernel_rfl) (by kernel_rfl) (by kernel_rfl) (by kernel_rfl) (Keep.refl _) ?done ?steps
  case done =>
    intro T wz hJ
    obtain ⟨x0, t0, f0⟩ := hJ.fact 0 5 (by decide) (by kernel_rfl)
    obtain rfl : x0 = .pointer (some ⟨w.heap.size, 0, none⟩) := f0
    obtain ⟨x1, t1, f1⟩ := hJ.fact 1 6 (by decide) (by kernel_rfl)
    obtain rfl : x1 = .int .i64 B := f1
    obtain ⟨x2, t2, f2⟩ := hJ.fact 2 7 (by decide) (by kernel_rfl)
    obtain rfl : x2 = .pointer (some ⟨w.heap.size, 1, none⟩) := f2
    obtain ⟨x3, t3, f3⟩ := hJ.fact 3 8 (by decide) (by kernel_rfl)
    obtain rfl : x3 = .int .i64 R := f3
    obtain ⟨x4, t4, f4⟩ := hJ.fact 4 9 (by decide) (by kernel_rfl)
    obtain rfl : x4 = .int .i64 t := f4
    obtain ⟨x5, t5, f5⟩ := hJ.fact 5 10 (by decide) (by kernel_rfl)
    obtain rfl : x5 = .int .i64 q := f5
    obtain ⟨x6, t6, f6⟩ := hJ.fact 6 11 (by decide) (by kernel_rfl)
    obtain rfl : x6 = .int .i64 (B + q) := f6
    obtain ⟨x7, t7, f7⟩ := hJ.fact 7 4 (by decide) (by kernel_rfl)
    obtain rfl : x7 = .int .i64 (B + q) := f7
    have hfr := hJ.frame [(5, .pointer (some ⟨w.heap.size, 0, none⟩)), (6, .int .i64 B), (7, .pointer (some ⟨w.heap.size, 1, none⟩)), (8, .int .i64 R), (9, .int .i64 t), (10, .int .i64 q), (11, .int .i64 (B + q)), (4, .int .i64 (B + q))] (by simp [t0, t1, t2, t3, t4, t5, t6, t7]) (by kernel_rfl)
    have G := hJ.keep
    clear hJ t0 t1 t2 t3 t4 t5 t6 t7
    subst hfr
    simp only [List.foldl_cons, List.foldl_nil, List.setIfInBounds_toArray, List.set_cons_zero, List.set_cons_succ]
    go_wp2
    go_ret
    exact ⟨rfl, k0.trans G⟩
  case steps =>
    refine LinSteps.cons (k := 0) ?_ (LinSteps.cons (k := 1) ?_ (LinSteps.cons (k := 2) ?_ (LinSteps.cons (k := 3) ?_ (LinSteps.cons (k := 4) ?_ (LinSteps.cons (k := 5) ?_ (LinSteps.cons (k := 6) ?_ (LinSteps.cons (k := 7) ?_ (LinSteps.nil))))))))
    · -- 0
      refine LinStep.plain rfl ?_
      intro QQ bb T ww hn hJ hd K HK
      have s2 := (hJ.oldSlot 2 (by kernel_rfl))
      simp only [List.getElem?_toArray, List.getElem?_cons_zero, List.getElem?_cons_succ] at s2
      have G := hJ.keep
      clear hJ hd hn
      go_simp
      exact HK.out _ _ (Keep.refl _) rfl
    · -- 1
      refine LinStep.plain rfl ?_
      intro QQ bb T ww hn hJ hd K HK
      obtain ⟨x0, t0, f0⟩ := hJ.dep hd 0 5 (by kernel_rfl) (by kernel_rfl)
      obtain rfl : x0 = .pointer (some ⟨w.heap.size, 0, none⟩) := f0
      have G := hJ.keep
      clear hJ hd hn
      have k0 := G.some c0
      go_simp
      exact HK.out _ _ (Keep.refl _) rfl
    · -- 2
      refine LinStep.plain rfl ?_
      intro QQ bb T ww hn hJ hd K HK
      have s2 := (hJ.oldSlot 2 (by kernel_rfl))
      simp only [List.getElem?_toArray, List.getElem?_cons_zero, List.getElem?_cons_succ] at s2
      have G := hJ.keep
      clear hJ hd hn
      go_simp
      exact HK.out _ _ (Keep.refl _) rfl
    · -- 3
      refine LinStep.plain rfl ?_
      intro QQ bb T ww hn hJ hd K HK
      obtain ⟨x2, t2, f2⟩ := hJ.dep hd 2 7 (by kernel_rfl) (by kernel_rfl)
      obtain rfl : x2 = .pointer (some ⟨w.heap.size, 1, none⟩) := f2
      have G := hJ.keep
      clear hJ hd hn
      have k0 := G.some c1
      go_simp
      exact HK.out _ _ (Keep.refl _) rfl
    · -- 4
      refine LinStep.plain rfl ?_
      intro QQ bb T ww hn hJ hd K HK
      have s1 := (hJ.oldSlot 1 (by kernel_rfl))
      simp only [List.getElem?_toArray, List.getElem?_cons_zero, List.getElem?_cons_succ] at s1
      have G := hJ.keep
      clear hJ hd hn
      go_simp
      exact HK.out _ _ (Keep.refl _) rfl
    · -- 5
      refine LinStep.plain rfl ?_
      intro QQ bb T ww hn hJ hd K HK
      obtain ⟨x3, t3, f3⟩ := hJ.dep hd 3 8 (by kernel_rfl) (by kernel_rfl)
      obtain rfl : x3 = .int .i64 R := f3
      obtain ⟨x4, t4, f4⟩ := hJ.dep hd 4 9 (by kernel_rfl) (by kernel_rfl)
      obtain rfl : x4 = .int .i64 t := f4
      have G := hJ.keep
      clear hJ hd hn
      go_wp2_with (go_at_call 81; ((with_reducible refine (ceilMulDiv_is R t 1048576 q _ hR ht (by omega) hq H).mono ?_); rintro _ w1 ⟨rfl, hk⟩))
      exact HK.out _ _ hk rfl
    · -- 6
      refine LinStep.plain rfl ?_
      intro QQ bb T ww hn hJ hd K HK
      obtain ⟨x1, t1, f1⟩ := hJ.dep hd 1 6 (by kernel_rfl) (by kernel_rfl)
      obtain rfl : x1 = .int .i64 B := f1
      obtain ⟨x5, t5, f5⟩ := hJ.dep hd 5 10 (by kernel_rfl) (by kernel_rfl)
      obtain rfl : x5 = .int .i64 q := f5
      have G := hJ.keep
      clear hJ hd hn
      have e1 : IntKind.i64.wrap (B + q) = B + q := IntWalk.i64_in _ (by omega)
      go_simp
      exact HK.out _ _ (Keep.refl _) rfl
    · -- 7
      refine LinStep.plain rfl ?_
      intro QQ bb T ww hn hJ hd K HK
      obtain ⟨x6, t6, f6⟩ := hJ.dep hd 6 11 (by kernel_rfl) (by kernel_rfl)
      obtain rfl : x6 = .int .i64 (B + q) := f6
      have G := hJ.keep
      clear hJ hd hn
      go_simp
      exact HK.out _ _ (Keep.refl _) rfl

end Go.Proofs.Ytmamadgikjkjdaa
