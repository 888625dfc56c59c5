/- What Same of the reference returns, and delayed and works of the statements' package. -/
import Derived.Test.YtmamadgikjkjdaaDrain
import Derived.Test.YtmamadgikjkjdaaOutput
import Derived.Test.YtmamadgikjkjdaaWorks3
namespace Go.Proofs.Ytmamadgikjkjdaa
open Go Go.RowKit

theorem ListAt.form {w : World} {v : Value} {zs : List Int} (h : ListAt w v zs) : ∃ a n cap, v = .slice a n cap ∧ zs.length = n ∧ n ≤ 9223372036854775807 ∧ ∀ j, j < n → ∃ b off, a = some ⟨b, off, none⟩ ∧ w.cell? ⟨b, off + j, none⟩ = some (.int .i64 (zs.getD j 0)) := by
  rcases h with ⟨rfl, rfl⟩ | ⟨b, off, n, cap, rfl, h2, h3, h4⟩
  · exact ⟨none, 0, 0, rfl, rfl, by omega, fun j hj => by omega⟩
  · exact ⟨_, n, cap, rfl, h2, h3, fun j hj => ⟨b, off, rfl, h4 j hj⟩⟩
theorem getD_ext {z1 z2 : List Int} (hl : z1.length = z2.length) (h : ∀ i, i < z1.length → z1.getD i 0 = z2.getD i 0) : z1 = z2 := by
  apply List.ext_getElem hl
  intro i h1 h2
  have := h i h1
  simpa [List.getD, h1, h2] using this
set_option maxRecDepth 100000 in
set_option maxHeartbeats 2000000 in
theorem same_is (v1 v2 : Value) (z1 z2 : List Int) (f : Bool) (w : World) (h1 : Hid (ListAt w v1 z1)) (h2 : Hid (ListAt w v2 z2)) (Hf : Hid (decide (z1 = z2) = f)) :
    Calls Try.prog 42 #[v1, v2] w (Res (.bool f) w) := by
  obtain ⟨a1, n, c1, rfl, l1, m1, g1⟩ := h1.out.form
  obtain ⟨a2, n2, c2, rfl, l2, m2, g2⟩ := h2.out.form
  have G1 := Lib.hid g1
  have G2 := Lib.hid g2
  clear g1 g2 h1 h2
  by_cases hn : n = n2
  · subst hn
    have HL := Lib.hid (And.intro l1 l2)
    have e0 : ((n : Int) == (n : Int)) = true := by simp
    have e1 : ((n : Int) != (n : Int)) = false := by simp
    clear l1 l2
    go_enter Try.func42, Try.ntmps42
    go_wp2
    go_loopw [5] (fun s5 wr => ∃ (k : Nat), k ≤ n ∧ s5 = .int .i64 k ∧ Hid ((∀ i, i < k → z1.getD i 0 = z2.getD i 0) ∧ Keep w wr)) (fun i _ => n - (intOf i).toNat)
    case atStart => exact ⟨0, Nat.zero_le _, rfl, Lib.hid ⟨fun i hi => absurd hi (Nat.not_lt_zero _), Keep.refl _⟩⟩
    case round =>
      obtain ⟨k, hk, rfl, HR⟩ := hrel
      by_cases hlt : k < n
      · obtain ⟨b1, o1, rfl, d0⟩ := G1.out k hlt
        obtain ⟨b2, o2, rfl, d1⟩ := G2.out k hlt
        have d0 := HR.out.2.some d0
        have d1 := HR.out.2.some d1
        obtain ⟨x, hx⟩ : ∃ x, z1.getD k 0 = x := ⟨_, rfl⟩
        obtain ⟨y, hy⟩ : ∃ y, z2.getD k 0 = y := ⟨_, rfl⟩
        rw [hx] at d0
        rw [hy] at d1
        by_cases hxy : x = y
        · have HX : Hid (z1.getD k 0 = z2.getD k 0) := Lib.hid (by rw [hx, hy, hxy])
          have f1 : (x != y) = false := by simp [hxy]
          clear hx hy hxy
          go_upto_region 6 with fail
          refine region_lin (W0 := wr) (listF [fun v ww => v = .slice (some ⟨b1, o1, none⟩) n c1, fun v ww => v = .int .i64 (k : Int), fun v ww => v = .pointer (some ⟨b1, o1 + k, none⟩), fun v ww => v = .int .i64 x, fun v ww => v = .slice (some ⟨b2, o2, none⟩) n c2, fun v ww => v = .int .i64 (k : Int), fun v ww => v = .pointer (some ⟨b2, o2 + k, none⟩), fun v ww => v = .int .i64 y, fun v ww => v = .bool false]) (listF_stable _ ⟨fun _ _ _ _ h => h, fun _ _ _ _ h => h, fun _ _ _ _ h => h, fun _ _ _ _ h => h, fun _ _ _ _ h => h, fun _ _ _ _ h => h, fun _ _ _ _ h => h, fun _ _ _ _ h => h, fun _ _ _ _ h => h, trivial⟩) (by kernel_rfl) (by kernel_rfl) (by kernel_rfl) (by kernel_rfl) (Keep.refl _) ?done ?steps
          case done =>
            intro T wz hJ
            obtain ⟨x0, t0, f0⟩ := hJ.fact 0 17 (by decide) (by kernel_rfl)
            obtain rfl : x0 = .slice (some ⟨b1, o1, none⟩) n c1 := f0
            obtain ⟨x1, t1, f1⟩ := hJ.fact 1 18 (by decide) (by kernel_rfl)
            obtain rfl : x1 = .int .i64 (k : Int) := f1
            obtain ⟨x2, t2, f2⟩ := hJ.fact 2 19 (by decide) (by kernel_rfl)
            obtain rfl : x2 = .pointer (some ⟨b1, o1 + k, none⟩) := f2
            obtain ⟨x3, t3, f3⟩ := hJ.fact 3 20 (by decide) (by kernel_rfl)
            obtain rfl : x3 = .int .i64 x := f3
            obtain ⟨x4, t4, f4⟩ := hJ.fact 4 21 (by decide) (by kernel_rfl)
            obtain rfl : x4 = .slice (some ⟨b2, o2, none⟩) n c2 := f4
            obtain ⟨x5, t5, f5⟩ := hJ.fact 5 22 (by decide) (by kernel_rfl)
            obtain rfl : x5 = .int .i64 (k : Int) := f5
            obtain ⟨x6, t6, f6⟩ := hJ.fact 6 23 (by decide) (by kernel_rfl)
            obtain rfl : x6 = .pointer (some ⟨b2, o2 + k, none⟩) := f6
            obtain ⟨x7, t7, f7⟩ := hJ.fact 7 24 (by decide) (by kernel_rfl)
            obtain rfl : x7 = .int .i64 y := f7
            obtain ⟨x8, t8, f8⟩ := hJ.fact 8 25 (by decide) (by kernel_rfl)
            obtain rfl : x8 = .bool false := f8
            have hfr := hJ.frame [(17, .slice (some ⟨b1, o1, none⟩) n c1), (18, .int .i64 (k : Int)), (19, .pointer (some ⟨b1, o1 + k, none⟩)), (20, .int .i64 x), (21, .slice (some ⟨b2, o2, none⟩) n c2), (22, .int .i64 (k : Int)), (23, .pointer (some ⟨b2, o2 + k, none⟩)), (24, .int .i64 y), (25, .bool false)] (by simp [t0, t1, t2, t3, t4, t5, t6, t7, t8]) (by kernel_rfl)
            have G := hJ.keep
            clear hJ t0 t1 t2 t3 t4 t5 t6 t7 t8
            rw [hfr]
            clear hfr T
            simp only [List.foldl_cons, List.foldl_nil, List.setIfInBounds_toArray, List.set_cons_zero, List.set_cons_succ]
            have kk := HR.out.2.trans G
            go_wp2
            go_roundw
            case rel => exact ⟨k + 1, by omega, rfl, Lib.hid ⟨fun i hi => by
              rcases Nat.lt_or_ge i k with h | h
              · exact HR.out.1 i h
              · obtain rfl : i = k := by omega
                exact HX.out, kk⟩⟩
            case measure => simp [intOf]; omega
          case steps =>
            refine LinSteps.cons (k := 0) ?_ (LinSteps.cons (k := 1) ?_ (LinSteps.cons (k := 2) ?_ (LinSteps.cons (k := 3) ?_ (LinSteps.cons (k := 4) ?_ (LinSteps.cons (k := 5) ?_ (LinSteps.cons (k := 6) ?_ (LinSteps.cons (k := 7) ?_ (LinSteps.cons (k := 8) ?_ (LinSteps.nil)))))))))
            · -- 0
              refine LinStep.plain rfl ?_
              intro QQ bb T ww hn hJ hd K HK
              have s0 := (hJ.oldSlot 0 (by kernel_rfl))
              simp only [List.getElem?_toArray, List.getElem?_cons_zero] at s0
              have G := hJ.keep
              clear hJ hd hn
              go_simp
              exact HK.out _ _ (Keep.refl _) rfl
            · -- 1
              refine LinStep.plain rfl ?_
              intro QQ bb T ww hn hJ hd K HK
              have s5 := (hJ.oldSlot 5 (by kernel_rfl))
              simp only [List.getElem?_toArray, List.getElem?_cons_zero, List.getElem?_cons_succ] at s5
              have G := hJ.keep
              clear hJ hd hn
              go_simp
              exact HK.out _ _ (Keep.refl _) rfl
            · -- 2
              refine LinStep.plain rfl ?_
              intro QQ bb T ww hn hJ hd K HK
              obtain ⟨x0, t0, f0⟩ := hJ.dep hd 0 17 (by kernel_rfl) (by kernel_rfl)
              obtain rfl : x0 = .slice (some ⟨b1, o1, none⟩) n c1 := f0
              obtain ⟨x1, t1, f1⟩ := hJ.dep hd 1 18 (by kernel_rfl) (by kernel_rfl)
              obtain rfl : x1 = .int .i64 (k : Int) := f1
              have G := hJ.keep
              clear hJ hd hn
              have hlt' := hlt
              go_simp
              exact HK.out _ _ (Keep.refl _) rfl
            · -- 3
              refine LinStep.plain rfl ?_
              intro QQ bb T ww hn hJ hd K HK
              obtain ⟨x2, t2, f2⟩ := hJ.dep hd 2 19 (by kernel_rfl) (by kernel_rfl)
              obtain rfl : x2 = .pointer (some ⟨b1, o1 + k, none⟩) := f2
              have G := hJ.keep
              clear hJ hd hn
              have k0 := G.some d0
              go_simp
              exact HK.out _ _ (Keep.refl _) rfl
            · -- 4
              refine LinStep.plain rfl ?_
              intro QQ bb T ww hn hJ hd K HK
              have s1 := (hJ.oldSlot 1 (by kernel_rfl))
              simp only [List.getElem?_toArray, List.getElem?_cons_zero, List.getElem?_cons_succ] at s1
              have G := hJ.keep
              clear hJ hd hn
              go_simp
              exact HK.out _ _ (Keep.refl _) rfl
            · -- 5
              refine LinStep.plain rfl ?_
              intro QQ bb T ww hn hJ hd K HK
              have s5 := (hJ.oldSlot 5 (by kernel_rfl))
              simp only [List.getElem?_toArray, List.getElem?_cons_zero, List.getElem?_cons_succ] at s5
              have G := hJ.keep
              clear hJ hd hn
              go_simp
              exact HK.out _ _ (Keep.refl _) rfl
            · -- 6
              refine LinStep.plain rfl ?_
              intro QQ bb T ww hn hJ hd K HK
              obtain ⟨x4, t4, f4⟩ := hJ.dep hd 4 21 (by kernel_rfl) (by kernel_rfl)
              obtain rfl : x4 = .slice (some ⟨b2, o2, none⟩) n c2 := f4
              obtain ⟨x5, t5, f5⟩ := hJ.dep hd 5 22 (by kernel_rfl) (by kernel_rfl)
              obtain rfl : x5 = .int .i64 (k : Int) := f5
              have G := hJ.keep
              clear hJ hd hn
              go_simp
              exact HK.out _ _ (Keep.refl _) rfl
            · -- 7
              refine LinStep.plain rfl ?_
              intro QQ bb T ww hn hJ hd K HK
              obtain ⟨x6, t6, f6⟩ := hJ.dep hd 6 23 (by kernel_rfl) (by kernel_rfl)
              obtain rfl : x6 = .pointer (some ⟨b2, o2 + k, none⟩) := f6
              have G := hJ.keep
              clear hJ hd hn
              have k0 := G.some d1
              go_simp
              exact HK.out _ _ (Keep.refl _) rfl
            · -- 8
              refine LinStep.plain rfl ?_
              intro QQ bb T ww hn hJ hd K HK
              obtain ⟨x3, t3, f3⟩ := hJ.dep hd 3 20 (by kernel_rfl) (by kernel_rfl)
              obtain rfl : x3 = .int .i64 x := f3
              obtain ⟨x7, t7, f7⟩ := hJ.dep hd 7 24 (by kernel_rfl) (by kernel_rfl)
              obtain rfl : x7 = .int .i64 y := f7
              have G := hJ.keep
              clear hJ hd hn
              go_simp
              exact HK.out _ _ (Keep.refl _) rfl
        · have HX : Hid (z1 ≠ z2) := Lib.hid (fun h => hxy (by rw [← hx, ← hy, h]))
          have f1 : (x != y) = true := by simp [hxy]
          have hff : false = f := by rw [← Hf.out]; simp [HX.out]
          subst hff
          clear hx hy hxy
          go_upto_region 6 with fail
          refine region_lin (W0 := wr) (listF [fun v ww => v = .slice (some ⟨b1, o1, none⟩) n c1, fun v ww => v = .int .i64 (k : Int), fun v ww => v = .pointer (some ⟨b1, o1 + k, none⟩), fun v ww => v = .int .i64 x, fun v ww => v = .slice (some ⟨b2, o2, none⟩) n c2, fun v ww => v = .int .i64 (k : Int), fun v ww => v = .pointer (some ⟨b2, o2 + k, none⟩), fun v ww => v = .int .i64 y, fun v ww => v = .bool true]) (listF_stable _ ⟨fun _ _ _ _ h => h, fun _ _ _ _ h => h, fun _ _ _ _ h => h, fun _ _ _ _ h => h, fun _ _ _ _ h => h, fun _ _ _ _ h => h, fun _ _ _ _ h => h, fun _ _ _ _ h => h, fun _ _ _ _ h => h, trivial⟩) (by kernel_rfl) (by kernel_rfl) (by kernel_rfl) (by kernel_rfl) (Keep.refl _) ?done ?steps
          case done =>
            intro T wz hJ
            obtain ⟨x0, t0, f0⟩ := hJ.fact 0 17 (by decide) (by kernel_rfl)
            obtain rfl : x0 = .slice (some ⟨b1, o1, none⟩) n c1 := f0
            obtain ⟨x1, t1, f1⟩ := hJ.fact 1 18 (by decide) (by kernel_rfl)
            obtain rfl : x1 = .int .i64 (k : Int) := f1
            obtain ⟨x2, t2, f2⟩ := hJ.fact 2 19 (by decide) (by kernel_rfl)
            obtain rfl : x2 = .pointer (some ⟨b1, o1 + k, none⟩) := f2
            obtain ⟨x3, t3, f3⟩ := hJ.fact 3 20 (by decide) (by kernel_rfl)
            obtain rfl : x3 = .int .i64 x := f3
            obtain ⟨x4, t4, f4⟩ := hJ.fact 4 21 (by decide) (by kernel_rfl)
            obtain rfl : x4 = .slice (some ⟨b2, o2, none⟩) n c2 := f4
            obtain ⟨x5, t5, f5⟩ := hJ.fact 5 22 (by decide) (by kernel_rfl)
            obtain rfl : x5 = .int .i64 (k : Int) := f5
            obtain ⟨x6, t6, f6⟩ := hJ.fact 6 23 (by decide) (by kernel_rfl)
            obtain rfl : x6 = .pointer (some ⟨b2, o2 + k, none⟩) := f6
            obtain ⟨x7, t7, f7⟩ := hJ.fact 7 24 (by decide) (by kernel_rfl)
            obtain rfl : x7 = .int .i64 y := f7
            obtain ⟨x8, t8, f8⟩ := hJ.fact 8 25 (by decide) (by kernel_rfl)
            obtain rfl : x8 = .bool true := f8
            have hfr := hJ.frame [(17, .slice (some ⟨b1, o1, none⟩) n c1), (18, .int .i64 (k : Int)), (19, .pointer (some ⟨b1, o1 + k, none⟩)), (20, .int .i64 x), (21, .slice (some ⟨b2, o2, none⟩) n c2), (22, .int .i64 (k : Int)), (23, .pointer (some ⟨b2, o2 + k, none⟩)), (24, .int .i64 y), (25, .bool true)] (by simp [t0, t1, t2, t3, t4, t5, t6, t7, t8]) (by kernel_rfl)
            have G := hJ.keep
            clear hJ t0 t1 t2 t3 t4 t5 t6 t7 t8
            rw [hfr]
            clear hfr T
            simp only [List.foldl_cons, List.foldl_nil, List.setIfInBounds_toArray, List.set_cons_zero, List.set_cons_succ]
            have kk := HR.out.2.trans G
            go_wp2
            go_ret
            exact ⟨rfl, kk⟩
          case steps =>
            refine LinSteps.cons (k := 0) ?_ (LinSteps.cons (k := 1) ?_ (LinSteps.cons (k := 2) ?_ (LinSteps.cons (k := 3) ?_ (LinSteps.cons (k := 4) ?_ (LinSteps.cons (k := 5) ?_ (LinSteps.cons (k := 6) ?_ (LinSteps.cons (k := 7) ?_ (LinSteps.cons (k := 8) ?_ (LinSteps.nil)))))))))
            · -- 0
              refine LinStep.plain rfl ?_
              intro QQ bb T ww hn hJ hd K HK
              have s0 := (hJ.oldSlot 0 (by kernel_rfl))
              simp only [List.getElem?_toArray, List.getElem?_cons_zero] at s0
              have G := hJ.keep
              clear hJ hd hn
              go_simp
              exact HK.out _ _ (Keep.refl _) rfl
            · -- 1
              refine LinStep.plain rfl ?_
              intro QQ bb T ww hn hJ hd K HK
              have s5 := (hJ.oldSlot 5 (by kernel_rfl))
              simp only [List.getElem?_toArray, List.getElem?_cons_zero, List.getElem?_cons_succ] at s5
              have G := hJ.keep
              clear hJ hd hn
              go_simp
              exact HK.out _ _ (Keep.refl _) rfl
            · -- 2
              refine LinStep.plain rfl ?_
              intro QQ bb T ww hn hJ hd K HK
              obtain ⟨x0, t0, f0⟩ := hJ.dep hd 0 17 (by kernel_rfl) (by kernel_rfl)
              obtain rfl : x0 = .slice (some ⟨b1, o1, none⟩) n c1 := f0
              obtain ⟨x1, t1, f1⟩ := hJ.dep hd 1 18 (by kernel_rfl) (by kernel_rfl)
              obtain rfl : x1 = .int .i64 (k : Int) := f1
              have G := hJ.keep
              clear hJ hd hn
              have hlt' := hlt
              go_simp
              exact HK.out _ _ (Keep.refl _) rfl
            · -- 3
              refine LinStep.plain rfl ?_
              intro QQ bb T ww hn hJ hd K HK
              obtain ⟨x2, t2, f2⟩ := hJ.dep hd 2 19 (by kernel_rfl) (by kernel_rfl)
              obtain rfl : x2 = .pointer (some ⟨b1, o1 + k, none⟩) := f2
              have G := hJ.keep
              clear hJ hd hn
              have k0 := G.some d0
              go_simp
              exact HK.out _ _ (Keep.refl _) rfl
            · -- 4
              refine LinStep.plain rfl ?_
              intro QQ bb T ww hn hJ hd K HK
              have s1 := (hJ.oldSlot 1 (by kernel_rfl))
              simp only [List.getElem?_toArray, List.getElem?_cons_zero, List.getElem?_cons_succ] at s1
              have G := hJ.keep
              clear hJ hd hn
              go_simp
              exact HK.out _ _ (Keep.refl _) rfl
            · -- 5
              refine LinStep.plain rfl ?_
              intro QQ bb T ww hn hJ hd K HK
              have s5 := (hJ.oldSlot 5 (by kernel_rfl))
              simp only [List.getElem?_toArray, List.getElem?_cons_zero, List.getElem?_cons_succ] at s5
              have G := hJ.keep
              clear hJ hd hn
              go_simp
              exact HK.out _ _ (Keep.refl _) rfl
            · -- 6
              refine LinStep.plain rfl ?_
              intro QQ bb T ww hn hJ hd K HK
              obtain ⟨x4, t4, f4⟩ := hJ.dep hd 4 21 (by kernel_rfl) (by kernel_rfl)
              obtain rfl : x4 = .slice (some ⟨b2, o2, none⟩) n c2 := f4
              obtain ⟨x5, t5, f5⟩ := hJ.dep hd 5 22 (by kernel_rfl) (by kernel_rfl)
              obtain rfl : x5 = .int .i64 (k : Int) := f5
              have G := hJ.keep
              clear hJ hd hn
              go_simp
              exact HK.out _ _ (Keep.refl _) rfl
            · -- 7
              refine LinStep.plain rfl ?_
              intro QQ bb T ww hn hJ hd K HK
              obtain ⟨x6, t6, f6⟩ := hJ.dep hd 6 23 (by kernel_rfl) (by kernel_rfl)
              obtain rfl : x6 = .pointer (some ⟨b2, o2 + k, none⟩) := f6
              have G := hJ.keep
              clear hJ hd hn
              have k0 := G.some d1
              go_simp
              exact HK.out _ _ (Keep.refl _) rfl
            · -- 8
              refine LinStep.plain rfl ?_
              intro QQ bb T ww hn hJ hd K HK
              obtain ⟨x3, t3, f3⟩ := hJ.dep hd 3 20 (by kernel_rfl) (by kernel_rfl)
              obtain rfl : x3 = .int .i64 x := f3
              obtain ⟨x7, t7, f7⟩ := hJ.dep hd 7 24 (by kernel_rfl) (by kernel_rfl)
              obtain rfl : x7 = .int .i64 y := f7
              have G := hJ.keep
              clear hJ hd hn
              go_simp
              exact HK.out _ _ (Keep.refl _) rfl
      · obtain rfl : k = n := by omega
        have hff : true = f := by rw [← Hf.out, getD_ext (by rw [HL.out.1, HL.out.2]) (fun i hi => HR.out.1 i (by rw [← HL.out.1]; exact hi))]; simp
        subst hff
        go_wp2
        go_ret
        exact ⟨rfl, HR.out.2⟩
  · have hff : false = f := by rw [← Hf.out]; simp; intro h; rw [h] at l1; omega
    subst hff
    have e0 : ((n : Int) == (n2 : Int)) = false := by simp; omega
    have e1 : ((n : Int) != (n2 : Int)) = true := by simp; omega
    clear l1 l2
    go_enter Try.func42, Try.ntmps42
    go_wp2
    go_ret
    exact ⟨rfl, Keep.refl _⟩

/-! ### delayed, works -/
set_option maxRecDepth 100000 in
theorem delayed_yes (a0 : Option Addr) (len cap : Nat) (l : List (Int × Int)) (R L n : Int) (w : World) (h : Hid (RowAt w (.slice a0 len cap) l)) (H : Hid (delayR l R L = (n, 0))) :
    Calls Try.prog 44 #[.agg #[.int .i64 R, .int .i64 L], .int .i64 n, .slice a0 len cap] w (Res (.bool true) w) := by
  have k0 := Keep.alloc (Keep.refl w) (.cells #[.int .i64 R, .int .i64 L] 54)
  have HR := Lib.hid (h.out.keep k0)
  have e0 : (n == n) = true := by simp
  clear h
  go_enter Try.func44, Try.ntmps44
  go_wp2_with (go_at_call 33; ((with_reducible refine (delay_is a0 len cap l R L n 0 _ HR H).mono ?_); rintro e w1 ⟨rfl, k1⟩))
  go_ret
  exact ⟨rfl, k0.trans k1⟩

theorem listNew (w : World) (zs : List Int) (t : TypeId) (h : zs.length ≤ 1000) : ListAt (w.alloc (.cells (zs.map (Value.int .i64)).toArray t)) (.slice (some ⟨w.heap.size, 0, none⟩) zs.length zs.length) zs := by
  obtain ⟨b, off, n, cap, h1, h2, h3, h4⟩ := intsNew w zs t h
  exact Or.inr ⟨b, off, n, cap, h1, h2, by omega, h4⟩
set_option maxRecDepth 100000 in
set_option maxHeartbeats 4000000 in
theorem works4_yes (w : World) : Calls Try.prog 32 #[] w (Res (.bool true) w) := by
  have hA : ∀ w' : World, RowAt (w'.alloc (.cells #[.int .i64 1000, .int .i64 65536] 30)) (.slice (some ⟨w'.heap.size, 0, none⟩) 1 1) [((1000 : Int), (65536 : Int))] := fun w' => rowNew w' [((1000 : Int), (65536 : Int))] 30 (by decide)
  have hB : ∀ w' : World, RowAt (w'.alloc (.cells #[.int .i64 1001, .int .i64 131072] 30)) (.slice (some ⟨w'.heap.size, 0, none⟩) 1 1) [((1001 : Int), (131072 : Int))] := fun w' => rowNew w' [((1001 : Int), (131072 : Int))] 30 (by decide)
  have hC : ∀ w' : World, RowAt (w'.alloc (.cells #[.int .i64 1000, .int .i64 65536, .int .i64 100, .int .i64 262144] 30)) (.slice (some ⟨w'.heap.size, 0, none⟩) 2 2) [((1000 : Int), (65536 : Int)), ((100 : Int), (262144 : Int))] := fun w' => rowNew w' [((1000 : Int), (65536 : Int)), ((100 : Int), (262144 : Int))] 30 (by decide)
  have hD : ∀ w' : World, RowAt (w'.alloc (.cells #[.int .i64 1, .int .i64 262144] 30)) (.slice (some ⟨w'.heap.size, 0, none⟩) 1 1) [((1 : Int), (262144 : Int))] := fun w' => rowNew w' [((1 : Int), (262144 : Int))] 30 (by decide)
  have hT : ∀ w' : World, RowAt (w'.alloc (.cells #[.int .i64 0, .int .i64 100, .int .i64 10, .int .i64 50, .int .i64 2000, .int .i64 1] 35)) (.slice (some ⟨w'.heap.size, 0, none⟩) 3 3) [((0 : Int), (100 : Int)), ((10 : Int), (50 : Int)), ((2000 : Int), (1 : Int))] := fun w' => rowNew w' [((0 : Int), (100 : Int)), ((10 : Int), (50 : Int)), ((2000 : Int), (1 : Int))] 35 (by decide)
  have hTT : ∀ w' : World, RowAt ((w'.alloc (.cells #[.int .i64 65536, .int .i64 105] 54)).alloc (.cells #[.int .i64 0, .int .i64 100, .int .i64 10, .int .i64 50, .int .i64 2000, .int .i64 1] 35)) (.slice (some ⟨w'.heap.size + 1, 0, none⟩) 3 3) [((0 : Int), (100 : Int)), ((10 : Int), (50 : Int)), ((2000 : Int), (1 : Int))] := fun w' => by have := hT (w'.alloc (.cells #[.int .i64 65536, .int .i64 105] 54)); rwa [World.size_alloc] at this
  have hI : ∀ w' : World, ListAt (w'.alloc (.cells #[.int .i64 900, .int .i64 1300, .int .i64 2108] 3)) (.slice (some ⟨w'.heap.size, 0, none⟩) 3 3) [900, 1300, 2108] := fun w' => listNew w' [900, 1300, 2108] 3 (by decide)
  have H1 : Hid (delayR [((1000 : Int), (65536 : Int))] 131072 100 = (8100, 0)) := Lib.hid (by decide)
  have H2 : Hid (delayR [((1001 : Int), (131072 : Int))] 131072 100 = (8108, 0)) := Lib.hid (by decide)
  have H3 : Hid (delayR [((1000 : Int), (65536 : Int)), ((100 : Int), (262144 : Int))] 131072 100 = (5700, 0)) := Lib.hid (by decide)
  have H4 : Hid (delayR [((1 : Int), (262144 : Int))] 131072 100 = (0, 141)) := Lib.hid (by decide)
  have H5 : Hid (backlogR 1000 65536 131072 100 = (1007, 0)) := Lib.hid (by decide)
  have H6 : Hid (outputR 1000 65536 131072 100 = ((1507, 65536), 0)) := Lib.hid (by decide)
  have H7 : Hid (joinR 131072 100 65536 5 = ((65536, 105), 0)) := Lib.hid (by decide)
  have H8 : Hid (drainR [((0 : Int), (100 : Int)), ((10 : Int), (50 : Int)), ((2000 : Int), (1 : Int))] 131072 100 = ([900, 1300, 2108], 0)) := Lib.hid (by decide)
  go_enter Try.func32, Try.ntmps32
  go_wp2_with fail
  have s0 : ((w.alloc (.cells #[.int .i64 131072, .int .i64 100] 54)).alloc (.cells #[.int .i64 1000, .int .i64 65536] 30)).cell? ⟨w.heap.size, 0, none⟩ = some (.int .i64 131072) := by simp [go_sem]
  have s1 : ((w.alloc (.cells #[.int .i64 131072, .int .i64 100] 54)).alloc (.cells #[.int .i64 1000, .int .i64 65536] 30)).cell? ⟨w.heap.size, 1, none⟩ = some (.int .i64 100) := by simp [go_sem]
  have b0 : ((w.alloc (.cells #[.int .i64 131072, .int .i64 100] 54)).alloc (.cells #[.int .i64 1000, .int .i64 65536] 30)).cell? ⟨w.heap.size + 1, 0, none⟩ = some (.int .i64 1000) := by simp [go_sem]
  have b1 : ((w.alloc (.cells #[.int .i64 131072, .int .i64 100] 54)).alloc (.cells #[.int .i64 1000, .int .i64 65536] 30)).cell? ⟨w.heap.size + 1, 1, none⟩ = some (.int .i64 65536) := by simp [go_sem]
  have KK := Lib.hid (Keep.alloc (Keep.alloc (Keep.refl w) (.cells #[.int .i64 131072, .int .i64 100] 54)) (.cells #[.int .i64 1000, .int .i64 65536] 30))
  have hA2 := hA ((w.alloc (.cells #[.int .i64 131072, .int .i64 100] 54)).alloc (.cells #[.int .i64 1000, .int .i64 65536] 30))
  rw [World.size_alloc, World.size_alloc] at hA2
  go_at_call 44
  refine (delayed_yes _ 1 1 _ 131072 100 8100 _ (Lib.hid hA2) H1).mono ?_
  rintro _ w1 ⟨rfl, k1⟩
  have s0 := k1.some (by first | exact s0 | exact cell_alloc_old _ s0 | exact cell_alloc_old _ (cell_alloc_old _ s0))
  have s1 := k1.some (by first | exact s1 | exact cell_alloc_old _ s1 | exact cell_alloc_old _ (cell_alloc_old _ s1))
  have b0 := k1.some (by first | exact b0 | exact cell_alloc_old _ b0 | exact cell_alloc_old _ (cell_alloc_old _ b0))
  have b1 := k1.some (by first | exact b1 | exact cell_alloc_old _ b1 | exact cell_alloc_old _ (cell_alloc_old _ b1))
  have KK := Lib.hid (by first | exact KK.out.trans k1 | exact (KK.out.alloc _).trans k1 | exact ((KK.out.alloc _).alloc _).trans k1)
  have hs0 := cellBlock s0
  have hb0 := cellBlock b0
  go_wp2_with fail
  go_at_call 44
  refine (delayed_yes _ 1 1 _ 131072 100 8108 _ (Lib.hid (hB _)) H2).mono ?_
  rintro _ w2 ⟨rfl, k2⟩
  have s0 := k2.some (by first | exact s0 | exact cell_alloc_old _ s0 | exact cell_alloc_old _ (cell_alloc_old _ s0))
  have s1 := k2.some (by first | exact s1 | exact cell_alloc_old _ s1 | exact cell_alloc_old _ (cell_alloc_old _ s1))
  have b0 := k2.some (by first | exact b0 | exact cell_alloc_old _ b0 | exact cell_alloc_old _ (cell_alloc_old _ b0))
  have b1 := k2.some (by first | exact b1 | exact cell_alloc_old _ b1 | exact cell_alloc_old _ (cell_alloc_old _ b1))
  have KK := Lib.hid (by first | exact KK.out.trans k2 | exact (KK.out.alloc _).trans k2 | exact ((KK.out.alloc _).alloc _).trans k2)
  have hs0 := cellBlock s0
  have hb0 := cellBlock b0
  go_wp2_with fail
  go_at_call 44
  refine (delayed_yes _ 2 2 _ 131072 100 5700 _ (Lib.hid (hC _)) H3).mono ?_
  rintro _ w3 ⟨rfl, k3⟩
  have s0 := k3.some (by first | exact s0 | exact cell_alloc_old _ s0 | exact cell_alloc_old _ (cell_alloc_old _ s0))
  have s1 := k3.some (by first | exact s1 | exact cell_alloc_old _ s1 | exact cell_alloc_old _ (cell_alloc_old _ s1))
  have b0 := k3.some (by first | exact b0 | exact cell_alloc_old _ b0 | exact cell_alloc_old _ (cell_alloc_old _ b0))
  have b1 := k3.some (by first | exact b1 | exact cell_alloc_old _ b1 | exact cell_alloc_old _ (cell_alloc_old _ b1))
  have KK := Lib.hid (by first | exact KK.out.trans k3 | exact (KK.out.alloc _).trans k3 | exact ((KK.out.alloc _).alloc _).trans k3)
  have hs0 := cellBlock s0
  have hb0 := cellBlock b0
  go_wp2_with fail
  go_at_call 33
  refine (delay_is _ 1 1 _ 131072 100 0 141 _ (Lib.hid (hD _)) H4).mono ?_
  rintro _ w4 ⟨rfl, k4⟩
  have s0 := k4.some (by first | exact s0 | exact cell_alloc_old _ s0 | exact cell_alloc_old _ (cell_alloc_old _ s0))
  have s1 := k4.some (by first | exact s1 | exact cell_alloc_old _ s1 | exact cell_alloc_old _ (cell_alloc_old _ s1))
  have b0 := k4.some (by first | exact b0 | exact cell_alloc_old _ b0 | exact cell_alloc_old _ (cell_alloc_old _ b0))
  have b1 := k4.some (by first | exact b1 | exact cell_alloc_old _ b1 | exact cell_alloc_old _ (cell_alloc_old _ b1))
  have KK := Lib.hid (by first | exact KK.out.trans k4 | exact (KK.out.alloc _).trans k4 | exact ((KK.out.alloc _).alloc _).trans k4)
  have hs0 := cellBlock s0
  have hb0 := cellBlock b0
  go_wp2_with fail
  go_at_call 35
  refine (backlog_is 1000 65536 131072 100 1007 0 _ H5).mono ?_
  rintro _ w5 ⟨rfl, k5⟩
  have s0 := k5.some (by first | exact s0 | exact cell_alloc_old _ s0 | exact cell_alloc_old _ (cell_alloc_old _ s0))
  have s1 := k5.some (by first | exact s1 | exact cell_alloc_old _ s1 | exact cell_alloc_old _ (cell_alloc_old _ s1))
  have b0 := k5.some (by first | exact b0 | exact cell_alloc_old _ b0 | exact cell_alloc_old _ (cell_alloc_old _ b0))
  have b1 := k5.some (by first | exact b1 | exact cell_alloc_old _ b1 | exact cell_alloc_old _ (cell_alloc_old _ b1))
  have KK := Lib.hid (by first | exact KK.out.trans k5 | exact (KK.out.alloc _).trans k5 | exact ((KK.out.alloc _).alloc _).trans k5)
  have hs0 := cellBlock s0
  have hb0 := cellBlock b0
  go_wp2_with fail
  go_at_call 37
  refine (output_is 1000 65536 131072 100 1507 65536 0 _ H6).mono ?_
  rintro _ w6 ⟨rfl, k6⟩
  have s0 := k6.some (by first | exact s0 | exact cell_alloc_old _ s0 | exact cell_alloc_old _ (cell_alloc_old _ s0))
  have s1 := k6.some (by first | exact s1 | exact cell_alloc_old _ s1 | exact cell_alloc_old _ (cell_alloc_old _ s1))
  have b0 := k6.some (by first | exact b0 | exact cell_alloc_old _ b0 | exact cell_alloc_old _ (cell_alloc_old _ b0))
  have b1 := k6.some (by first | exact b1 | exact cell_alloc_old _ b1 | exact cell_alloc_old _ (cell_alloc_old _ b1))
  have KK := Lib.hid (by first | exact KK.out.trans k6 | exact (KK.out.alloc _).trans k6 | exact ((KK.out.alloc _).alloc _).trans k6)
  have hs0 := cellBlock s0
  have hb0 := cellBlock b0
  go_wp2_with fail
  go_at_call 28
  refine (join_is 131072 100 65536 5 65536 105 0 _ H7).mono ?_
  rintro _ w7 ⟨rfl, k7⟩
  have s0 := k7.some (by first | exact s0 | exact cell_alloc_old _ s0 | exact cell_alloc_old _ (cell_alloc_old _ s0))
  have s1 := k7.some (by first | exact s1 | exact cell_alloc_old _ s1 | exact cell_alloc_old _ (cell_alloc_old _ s1))
  have b0 := k7.some (by first | exact b0 | exact cell_alloc_old _ b0 | exact cell_alloc_old _ (cell_alloc_old _ b0))
  have b1 := k7.some (by first | exact b1 | exact cell_alloc_old _ b1 | exact cell_alloc_old _ (cell_alloc_old _ b1))
  have o0 : w7.cell? ⟨w6.heap.size, 0, none⟩ = some (.int .i64 1507) := k7.some (by first | (simp [go_sem]; done) | exact cell_alloc_old _ (by simp [go_sem]))
  have o1 : w7.cell? ⟨w6.heap.size, 1, none⟩ = some (.int .i64 65536) := k7.some (by first | (simp [go_sem]; done) | exact cell_alloc_old _ (by simp [go_sem]))
  have KK := Lib.hid (by first | exact KK.out.trans k7 | exact (KK.out.alloc _).trans k7 | exact ((KK.out.alloc _).alloc _).trans k7)
  have hs0 := cellBlock s0
  have hb0 := cellBlock b0
  have ho0 := cellBlock o0
  go_wp2_with fail
  go_at_call 40
  refine (drain_slice _ 3 3 _ 131072 100 _ _ (Lib.hid (hTT _)) H8).mono ?_
  rintro _ w8 ⟨v, rfl, hl, k8⟩
  have s0 := k8.some (by first | exact s0 | exact cell_alloc_old _ s0 | exact cell_alloc_old _ (cell_alloc_old _ s0))
  have s1 := k8.some (by first | exact s1 | exact cell_alloc_old _ s1 | exact cell_alloc_old _ (cell_alloc_old _ s1))
  have b0 := k8.some (by first | exact b0 | exact cell_alloc_old _ b0 | exact cell_alloc_old _ (cell_alloc_old _ b0))
  have b1 := k8.some (by first | exact b1 | exact cell_alloc_old _ b1 | exact cell_alloc_old _ (cell_alloc_old _ b1))
  have o0 := k8.some (by first | exact o0 | exact cell_alloc_old _ o0 | exact cell_alloc_old _ (cell_alloc_old _ o0))
  have o1 := k8.some (by first | exact o1 | exact cell_alloc_old _ o1 | exact cell_alloc_old _ (cell_alloc_old _ o1))
  have j0 : w8.cell? ⟨w7.heap.size, 0, none⟩ = some (.int .i64 65536) := k8.some (by first | (simp [go_sem]; done) | exact cell_alloc_old _ (by simp [go_sem]))
  have j1 : w8.cell? ⟨w7.heap.size, 1, none⟩ = some (.int .i64 105) := k8.some (by first | (simp [go_sem]; done) | exact cell_alloc_old _ (by simp [go_sem]))
  have KK := Lib.hid (by first | exact KK.out.trans k8 | exact (KK.out.alloc _).trans k8 | exact ((KK.out.alloc _).alloc _).trans k8)
  have hs0 := cellBlock s0
  have hb0 := cellBlock b0
  have ho0 := cellBlock o0
  have hj0 := cellBlock j0
  go_wp2_with fail
  go_at_call 42
  refine (same_is v _ _ [900, 1300, 2108] true _ (Lib.hid (hl.keep (Keep.alloc (Keep.refl _) _))) (Lib.hid (hI _)) (Lib.hid (by simp))).mono ?_
  rintro _ w9 ⟨rfl, k9⟩
  have o0 := k9.some (by first | exact o0 | exact cell_alloc_old _ o0 | exact cell_alloc_old _ (cell_alloc_old _ o0))
  have o1 := k9.some (by first | exact o1 | exact cell_alloc_old _ o1 | exact cell_alloc_old _ (cell_alloc_old _ o1))
  have j0 := k9.some (by first | exact j0 | exact cell_alloc_old _ j0 | exact cell_alloc_old _ (cell_alloc_old _ j0))
  have j1 := k9.some (by first | exact j1 | exact cell_alloc_old _ j1 | exact cell_alloc_old _ (cell_alloc_old _ j1))
  have KK := Lib.hid (by first | exact KK.out.trans k9 | exact (KK.out.alloc _).trans k9 | exact ((KK.out.alloc _).alloc _).trans k9)
  have ho0 := cellBlock o0
  have hj0 := cellBlock j0
  go_wp2
  go_ret
  exact ⟨rfl, KK.out⟩

end Go.Proofs.Ytmamadgikjkjdaa
