/- MergeMixed. -/
import Derived.Test.YtgejpbgpgklimaaMArrD
import Derived.Test.YtgejpbgpgklimaaMWorks
import Derived.Test.YtgejpbgpgklimaaMAppV
import Derived.Test.YtgejpbgpgklimaaLin
namespace Go.Proofs.Ytgejpbgpgklimaa
open Go Go.RowKit

set_option maxRecDepth 100000 in
set_option maxHeartbeats 4000000 in
theorem lawMixed_any (D : Nat → MDr) (vo : Value) (os : List Int) (w : World) (hD : ∀ j, j < 4 → (D j).Ok w) (hbo : BytesL os) (hO : BytesIn w vo os) :
    Calls Try.prog 6 #[.agg #[.string (D 0).x, .int .u16 (D 0).L, .int .u8 (D 0).g, (D 0).V, .string (D 1).x, .int .u16 (D 1).L, .int .u8 (D 1).g, (D 1).V, .string (D 2).x, .int .u16 (D 2).L, .int .u8 (D 2).g, (D 2).V, .string (D 3).x, .int .u16 (D 3).L, .int .u8 (D 3).g, (D 3).V], vo] w (Res (.bool true) w) := by
  obtain ⟨a2, n2, cp2, rfl⟩ := bytes_slice hO
  obtain ⟨F, hF⟩ : ∃ F : Nat → ByteArray, ∀ j, frmD (D j).x (D j).L = F j := ⟨_, fun _ => rfl⟩
  obtain ⟨C, hC⟩ : ∃ C : Nat → List Int, ∀ j, offsD (D j).gs (D j).x (D j).L 4 = C j := ⟨_, fun _ => rfl⟩
  have hC4 : ∀ j, j < 4 → (C j).length ≤ 4 := fun j _ => by rw [← hC]; exact offsD_length _ _ _ 4
  have hW : ∀ j, j < 4 → Whole (F j) (j : Int) (C j) := fun j hj => by
    rw [← hF, ← hC]
    exact Whole.of (frmD_whole _ _) (by omega) (offsD_ok (hD j hj).2.2.2.1 _ _ 4)
  have HD := Lib.hid hD
  have HO := Lib.hid hO
  have HBO := Lib.hid hbo
  have HF := Lib.hid hF
  have HC := Lib.hid hC
  have HW := Lib.hid hW
  have HC4 := Lib.hid hC4
  have hN4 := allK_len (F := F) hC4 4 (by omega)
  clear hD hO hbo hF hC hW
  go_enter Try.func6, Try.ntmps6
  go_upto_region 3 with (go_at_call 16; ((with_reducible refine (works_any _).mono ?_); rintro e' w1 ⟨rfl, k1⟩))
  have hA1 := (arrD_new w D).keep k1
  have K1 := ((Keep.refl w).alloc (.cells #[.string (D 0).x, .int .u16 (D 0).L, .int .u8 (D 0).g, (D 0).V, .string (D 1).x, .int .u16 (D 1).L, .int .u8 (D 1).g, (D 1).V, .string (D 2).x, .int .u16 (D 2).L, .int .u8 (D 2).g, (D 2).V, .string (D 3).x, .int .u16 (D 3).L, .int .u8 (D 3).g, (D 3).V] 59)).trans k1
  obtain ⟨A, hAe⟩ : ∃ A, w.heap.size = A := ⟨_, rfl⟩
  rw [hAe] at hA1 ⊢
  have hAw : w.heap.size ≤ A := by omega
  have hAb := hA1.lt
  have hw1 : w.heap.size ≤ w1.heap.size := by omega
  have HA1 := Lib.hid hA1
  have HK1 := Lib.hid K1
  clear hA1 K1 k1 hAe
  obtain ⟨i0, hi, hz0, hz1, hz2⟩ := info_parts infoPc
  go_wp2
  go_loopw [5, 6] (fun u i wr => ∃ k : Nat, k ≤ 4 ∧ i = .int .i64 k ∧ Hid (ArrD wr A D (fun j => if j < k then (j : Int) else (D j).g) ∧ OwnP wr w1.heap.size u (allK F C k) ∧ Keep w wr ∧ w1.heap.size ≤ wr.heap.size)) (fun _ i _ => 4 - (intOf i).toNat)
  case atStart => exact ⟨0, by omega, rfl, Lib.hid ⟨HA1.out, OwnP.nil _ _, HK1.out, Nat.le_refl _⟩⟩
  case round =>
    obtain ⟨k, hk, rfl, HR⟩ := hrel
    by_cases hlt : k < 4
    · have hki : (k : Int) < 4 := by omega
      have hkw : IntKind.u8.wrap (k : Int) = (k : Int) := by show (k : Int) % 256 = k; omega
      obtain ⟨c0, c1, c2, c3⟩ := HR.out.1.cells hlt
      have cf := HR.out.1.free (k * 4 + 2)
      go_upto_region 8 with fail
      have hA3 : ArrD (wr.setCell ⟨A, k * 4 + 2, none⟩ (.int .u8 (k : Int))) A D (fun j => if j < k + 1 then (j : Int) else (D j).g) := HR.out.1.set hlt (k : Int) (fun j _ => by
        show (if j < k + 1 then (j : Int) else (D j).g) = if j = k then (k : Int) else if j < k then (j : Int) else (D j).g
        by_cases e : j = k
        · subst e; rw [if_pos (by omega), if_pos rfl]
        · rw [if_neg e]
          by_cases h : j < k
          · rw [if_pos (by omega), if_pos h]
          · rw [if_neg (by omega), if_neg h])
      have hO3 : OwnP (wr.setCell ⟨A, k * 4 + 2, none⟩ (.int .u8 (k : Int))) w1.heap.size u5 (allK F C k) := HR.out.2.1.x (keepX_set wr A (k * 4 + 2) _) (ownP_ne HR.out.2.1 hAb)
      have K3 := Lib.hid (And.intro (HR.out.2.2.1.setCell (a := ⟨A, k * 4 + 2, none⟩) hAw (.int .u8 (k : Int))) (Nat.le_trans HR.out.2.2.2 (keepX_set wr A (k * 4 + 2) (.int .u8 (k : Int))).size))
      clear c0 c1 c2 c3 cf HR
      generalize (wr.setCell ⟨A, k * 4 + 2, none⟩ (.int .u8 (k : Int))) = w3 at *
      have cc := hA3.cells hlt
      rw [if_pos (show k < k + 1 by omega)] at cc
      have hDk := HD.out k hlt
      unfold MDr.Ok at hDk
      have hFk := HF.out k
      have hCk := HC.out k
      obtain ⟨x, hx⟩ : ∃ x, (D k).x = x := ⟨_, rfl⟩
      obtain ⟨L, hLe⟩ : ∃ x, (D k).L = x := ⟨_, rfl⟩
      obtain ⟨V, hVe⟩ : ∃ x, (D k).V = x := ⟨_, rfl⟩
      obtain ⟨gs, hge⟩ : ∃ x, (D k).gs = x := ⟨_, rfl⟩
      rw [hx, hLe, hVe] at cc
      rw [hx, hLe, hVe, hge] at hDk
      rw [hx, hLe] at hFk
      rw [hx, hLe, hge] at hCk
      clear hVe
      obtain ⟨a0, len, cap, rfl⟩ := bytes_slice hDk.2.2.2.2
      obtain ⟨t, ht⟩ : ∃ t, F k = t := ⟨_, rfl⟩
      obtain ⟨l, hl⟩ : ∃ l, C k = l := ⟨_, rfl⟩
      obtain ⟨ll, hll⟩ : ∃ ll, pcsL t (k : Int) l = ll := ⟨_, rfl⟩
      have hl4 := hC4 k hlt
      rw [hl] at hl4
      have hll5 : ll.length ≤ 5 := by rw [← hll, pcsL_length]; omega
      have hak := (allK_len (F := F) hC4 k (by omega)).2
      have HLE : Hid (pcsL (F k) (k : Int) (C k) = ll) := Lib.hid (by rw [ht, hl]; exact hll)
      rw [ht] at hFk
      rw [hl] at hCk
      have hv := cut_valid (frmD_whole x L) (show 0 ≤ (k : Int) ∧ (k : Int) ≤ 3 by omega) (offsD_ok hDk.2.2.2.1 x L 4)
      rw [hFk, hCk] at hv
      have HLL : Hid (cutL t (k : Int) l = ll) := Lib.hid (hv.1.trans hll)
      have HEE : Hid (cutE t (k : Int) l = 0) := Lib.hid hv.2
      have HLN : Hid (l.length ≤ 1000000) := Lib.hid (by omega)
      have HT := Lib.hid hFk
      have HL := Lib.hid hCk
      have HX := Lib.hid (And.intro hDk.1 (And.intro hDk.2.1 hDk.2.2.1))
      have HB := Lib.hid hDk.2.2.2.1
      have HV := Lib.hid (hDk.2.2.2.2.keep K3.out.1)
      obtain ⟨c0, c1, c2, c3⟩ := cc
      clear hx hLe hge ht hl hll hv hDk hFk hCk
      refine region_lin (W0 := w3) (listF [fun v ww => v = .int .i64 (k : Int), fun v ww => v = .pointer (some ⟨A, k * 4, none⟩), fun v ww => v = .agg #[.string x, .int .u16 L, .int .u8 (k : Int), .slice a0 len cap], fun v ww => v = .string t, fun v ww => v = .int .i64 (k : Int), fun v ww => v = .int .i64 (k : Int), fun v ww => v = .pointer (some ⟨A, k * 4, none⟩), fun v ww => v = .agg #[.string x, .int .u16 L, .int .u8 (k : Int), .slice a0 len cap], fun v ww => OwnI ww w3.heap.size v l, fun v ww => ∃ u, v = .tuple #[u, .int .i64 0] ∧ OwnP ww w3.heap.size u ll, fun v ww => ∃ u, v = .tuple #[u, .int .i64 0] ∧ OwnP ww w3.heap.size u ll, fun v ww => OwnP ww w3.heap.size v ll, fun v ww => v = .int .i64 0, fun v ww => OwnP ww w3.heap.size v ll, fun v ww => v = .int .i64 0]) (listF_stable _ ⟨fun _ _ _ _ h => h, fun _ _ _ _ h => h, fun _ _ _ _ h => h, fun _ _ _ _ h => h, fun _ _ _ _ h => h, fun _ _ _ _ h => h, fun _ _ _ _ h => h, fun _ _ _ _ h => h, fun _ _ _ hk h => h.keep hk, fun _ _ _ hk ⟨u, h1, h2⟩ => ⟨u, h1, h2.keep hk⟩, fun _ _ _ hk ⟨u, h1, h2⟩ => ⟨u, h1, h2.keep hk⟩, fun _ _ _ hk h => h.keep hk, fun _ _ _ _ h => h, fun _ _ _ hk h => h.keep hk, fun _ _ _ _ h => h, trivial⟩) (by kernel_rfl) (by kernel_rfl) (by kernel_rfl) (by kernel_rfl) (Keep.refl _) ?done8 ?steps8
      case done8 =>
        intro T8 wz8 hJ
        obtain ⟨x0, t0, f0⟩ := hJ.fact 0 27 (by decide) (by kernel_rfl)
        obtain rfl : x0 = .int .i64 (k : Int) := f0
        obtain ⟨x1, t1, f1⟩ := hJ.fact 1 28 (by decide) (by kernel_rfl)
        obtain rfl : x1 = .pointer (some ⟨A, k * 4, none⟩) := f1
        obtain ⟨x2, t2, f2⟩ := hJ.fact 2 29 (by decide) (by kernel_rfl)
        obtain rfl : x2 = .agg #[.string x, .int .u16 L, .int .u8 (k : Int), .slice a0 len cap] := f2
        obtain ⟨x3, t3, f3⟩ := hJ.fact 3 30 (by decide) (by kernel_rfl)
        obtain rfl : x3 = .string t := f3
        obtain ⟨x4, t4, f4⟩ := hJ.fact 4 31 (by decide) (by kernel_rfl)
        obtain rfl : x4 = .int .i64 (k : Int) := f4
        obtain ⟨x5, t5, f5⟩ := hJ.fact 5 32 (by decide) (by kernel_rfl)
        obtain rfl : x5 = .int .i64 (k : Int) := f5
        obtain ⟨x6, t6, f6⟩ := hJ.fact 6 33 (by decide) (by kernel_rfl)
        obtain rfl : x6 = .pointer (some ⟨A, k * 4, none⟩) := f6
        obtain ⟨x7, t7, f7⟩ := hJ.fact 7 34 (by decide) (by kernel_rfl)
        obtain rfl : x7 = .agg #[.string x, .int .u16 L, .int .u8 (k : Int), .slice a0 len cap] := f7
        obtain ⟨x8, t8, f8⟩ := hJ.fact 8 35 (by decide) (by kernel_rfl)
        replace f8 : OwnI wz8 w3.heap.size x8 l := f8
        obtain ⟨x9, t9, f9⟩ := hJ.fact 9 36 (by decide) (by kernel_rfl)
        replace f9 : ∃ u, x9 = .tuple #[u, .int .i64 0] ∧ OwnP wz8 w3.heap.size u ll := f9
        obtain ⟨x10, t10, f10⟩ := hJ.fact 10 26 (by decide) (by kernel_rfl)
        replace f10 : ∃ u, x10 = .tuple #[u, .int .i64 0] ∧ OwnP wz8 w3.heap.size u ll := f10
        obtain ⟨x11, t11, f11⟩ := hJ.fact 11 37 (by decide) (by kernel_rfl)
        replace f11 : OwnP wz8 w3.heap.size x11 ll := f11
        obtain ⟨x12, t12, f12⟩ := hJ.fact 12 38 (by decide) (by kernel_rfl)
        obtain rfl : x12 = .int .i64 0 := f12
        obtain ⟨x13, t13, f13⟩ := hJ.fact 13 7 (by decide) (by kernel_rfl)
        replace f13 : OwnP wz8 w3.heap.size x13 ll := f13
        obtain ⟨x14, t14, f14⟩ := hJ.fact 14 8 (by decide) (by kernel_rfl)
        obtain rfl : x14 = .int .i64 0 := f14
        have hfr := hJ.frame [(27, .int .i64 (k : Int)), (28, .pointer (some ⟨A, k * 4, none⟩)), (29, .agg #[.string x, .int .u16 L, .int .u8 (k : Int), .slice a0 len cap]), (30, .string t), (31, .int .i64 (k : Int)), (32, .int .i64 (k : Int)), (33, .pointer (some ⟨A, k * 4, none⟩)), (34, .agg #[.string x, .int .u16 L, .int .u8 (k : Int), .slice a0 len cap]), (35, x8), (36, x9), (26, x10), (37, x11), (38, .int .i64 0), (7, x13), (8, .int .i64 0)] (by simp [t0, t1, t2, t3, t4, t5, t6, t7, t8, t9, t10, t11, t12, t13, t14]) (by kernel_rfl)
        have G := hJ.keep
        clear hJ t0 t1 t2 t3 t4 t5 t6 t7 t8 t9 t10 t11 t12 t13 t14
        rw [hfr]
        clear hfr T8
        simp only [List.foldl_cons, List.foldl_nil, List.setIfInBounds_toArray, List.set_cons_zero, List.set_cons_succ]
        clear f8 f9 f10 f11
        go_wp2_with (at_builtin; refine wpList_appendV rfl _ _ 35 rfl w1.heap.size 45 i0 (.agg #[.bool false, .int .i64 0, .int .i64 0, .string ⟨#[]⟩]) 4 40 Try.underlying35 hi hz0 hz1 hz2 rfl (by decide) u5 (allK F C k).length (cellsP (allK F C k)) rfl (hO3.keep G) x13 ll.length (cellsP ll) rfl (reads_pcs f13.row) (cellsP_cell _) (by unfold maxLen; omega) (by omega) (Nat.le_trans K3.out.2 G.size) ?_; intro v7 w7 ho7 hg7)
        go_roundw
        case rel =>
          have hA7 := (hA3.keep G).row (hg7.block A (hA3.keep G).lt (Ne.symm (ownP_ne (hO3.keep G) hAb)))
          have hOw : OwnP w7 w1.heap.size v7 (allK F C (k + 1)) := by
            unfold OwnP
            rw [allK_succ, cellsP_append, List.length_append, HLE.out]
            exact ho7
          have hKw := (K3.out.1.trans G).byRow hg7 (fun j e => Nat.le_trans hw1 (World.ownsRow.lt (hO3.keep G) j e).1)
          have hSz := Nat.le_trans K3.out.2 (Nat.le_trans G.size hg7.size)
          first | exact ⟨k + 1, by omega, by go_num, Lib.hid ⟨hA7, hOw, hKw, hSz⟩⟩ | exact ⟨k + 1, by omega, Lib.hid ⟨hA7, hOw, hKw, hSz⟩⟩
        case measure => simp [intOf]; omega
      case steps8 =>
        refine LinSteps.cons (k := 0) ?_ (LinSteps.cons (k := 1) ?_ (LinSteps.cons (k := 2) ?_ (LinSteps.cons (k := 3) ?_ (LinSteps.cons (k := 4) ?_ (LinSteps.cons (k := 5) ?_ (LinSteps.cons (k := 6) ?_ (LinSteps.cons (k := 7) ?_ (LinSteps.cons (k := 8) ?_ (LinSteps.cons (k := 9) ?_ (LinSteps.cons (k := 10) ?_ (LinSteps.cons (k := 11) ?_ (LinSteps.cons (k := 12) ?_ (LinSteps.cons (k := 13) ?_ (LinSteps.cons (k := 14) ?_ (LinSteps.nil)))))))))))))))
        · -- 0
          refine LinStep.plain rfl ?_
          intro QQ bb T ww hn hJ hd K HK
          have s6 := (hJ.oldSlot 6 (by kernel_rfl))
          simp only [List.getElem?_toArray, List.getElem?_cons_zero, List.getElem?_cons_succ] at s6
          have G := hJ.keep
          clear hJ hd hn
          go_simp
          exact HK.out _ _ (Keep.refl _) rfl
        · -- 1
          refine LinStep.plain rfl ?_
          intro QQ bb T ww hn hJ hd K HK
          obtain ⟨x0, t0, f0⟩ := hJ.dep hd 0 27 (by kernel_rfl) (by kernel_rfl)
          obtain rfl : x0 = .int .i64 (k : Int) := f0
          have s2 := (hJ.oldSlot 2 (by kernel_rfl))
          simp only [List.getElem?_toArray, List.getElem?_cons_zero, List.getElem?_cons_succ] at s2
          have G := hJ.keep
          clear hJ hd hn
          go_simp
          exact HK.out _ _ (Keep.refl _) rfl
        · -- 2
          refine LinStep.plain rfl ?_
          intro QQ bb T ww hn hJ hd K HK
          obtain ⟨x1, t1, f1⟩ := hJ.dep hd 1 28 (by kernel_rfl) (by kernel_rfl)
          obtain rfl : x1 = .pointer (some ⟨A, k * 4, none⟩) := f1
          have G := hJ.keep
          clear hJ hd hn
          have k0 := G.some c0
          have k1 := G.some c1
          have k2 := G.some c2
          have k3 := G.some c3
          go_simp
          exact HK.out _ _ (Keep.refl _) rfl
        · -- 3
          refine LinStep.plain rfl ?_
          intro QQ bb T ww hn hJ hd K HK
          obtain ⟨x2, t2, f2⟩ := hJ.dep hd 2 29 (by kernel_rfl) (by kernel_rfl)
          obtain rfl : x2 = .agg #[.string x, .int .u16 L, .int .u8 (k : Int), .slice a0 len cap] := f2
          have G := hJ.keep
          clear hJ hd hn
          go_wp2_with ((go_at_call 11; ((with_reducible refine (frame_is x L (k : Int) a0 len cap t _ HX.out.1 HX.out.2.2 HT).mono ?_); rintro e' w5 ⟨rfl, hk⟩)))
          exact HK.out _ _ hk rfl
        · -- 4
          refine LinStep.plain rfl ?_
          intro QQ bb T ww hn hJ hd K HK
          have s6 := (hJ.oldSlot 6 (by kernel_rfl))
          simp only [List.getElem?_toArray, List.getElem?_cons_zero, List.getElem?_cons_succ] at s6
          have G := hJ.keep
          clear hJ hd hn
          go_simp
          exact HK.out _ _ (Keep.refl _) rfl
        · -- 5
          refine LinStep.plain rfl ?_
          intro QQ bb T ww hn hJ hd K HK
          have s6 := (hJ.oldSlot 6 (by kernel_rfl))
          simp only [List.getElem?_toArray, List.getElem?_cons_zero, List.getElem?_cons_succ] at s6
          have G := hJ.keep
          clear hJ hd hn
          go_simp
          exact HK.out _ _ (Keep.refl _) rfl
        · -- 6
          refine LinStep.plain rfl ?_
          intro QQ bb T ww hn hJ hd K HK
          obtain ⟨x5, t5, f5⟩ := hJ.dep hd 5 32 (by kernel_rfl) (by kernel_rfl)
          obtain rfl : x5 = .int .i64 (k : Int) := f5
          have s2 := (hJ.oldSlot 2 (by kernel_rfl))
          simp only [List.getElem?_toArray, List.getElem?_cons_zero, List.getElem?_cons_succ] at s2
          have G := hJ.keep
          clear hJ hd hn
          go_simp
          exact HK.out _ _ (Keep.refl _) rfl
        · -- 7
          refine LinStep.plain rfl ?_
          intro QQ bb T ww hn hJ hd K HK
          obtain ⟨x6, t6, f6⟩ := hJ.dep hd 6 33 (by kernel_rfl) (by kernel_rfl)
          obtain rfl : x6 = .pointer (some ⟨A, k * 4, none⟩) := f6
          have G := hJ.keep
          clear hJ hd hn
          have k0 := G.some c0
          have k1 := G.some c1
          have k2 := G.some c2
          have k3 := G.some c3
          go_simp
          exact HK.out _ _ (Keep.refl _) rfl
        · -- 8
          refine LinStep.plain rfl ?_
          intro QQ bb T ww hn hJ hd K HK
          obtain ⟨x7, t7, f7⟩ := hJ.dep hd 7 34 (by kernel_rfl) (by kernel_rfl)
          obtain rfl : x7 = .agg #[.string x, .int .u16 L, .int .u8 (k : Int), .slice a0 len cap] := f7
          have G := hJ.keep
          clear hJ hd hn
          go_wp2_with ((go_at_call 10; ((with_reducible refine (offsets_is x L (k : Int) _ gs 4 4 l _ HX.out.1 HX.out.2.2 HB.out (HV.out.keep G) rfl (by omega) HL).mono ?_); rintro e' w5 ⟨u5, rfl, ho, hk⟩)))
          exact HK.out _ _ hk (ho.base G.size)
        · -- 9
          refine LinStep.plain rfl ?_
          intro QQ bb T ww hn hJ hd K HK
          obtain ⟨x3, t3, f3⟩ := hJ.dep hd 3 30 (by kernel_rfl) (by kernel_rfl)
          obtain rfl : x3 = .string t := f3
          obtain ⟨x4, t4, f4⟩ := hJ.dep hd 4 31 (by kernel_rfl) (by kernel_rfl)
          obtain rfl : x4 = .int .i64 (k : Int) := f4
          obtain ⟨x8, t8, f8⟩ := hJ.dep hd 8 35 (by kernel_rfl) (by kernel_rfl)
          replace f8 : OwnI ww w3.heap.size x8 l := f8
          have G := hJ.keep
          clear hJ hd hn
          go_wp2_with ((go_at_call 13; ((with_reducible refine (cut_is t (k : Int) _ l ll 0 _ (f8.list HLN.out) HLL HEE).mono ?_); rintro e' w5 ⟨u5, rfl, ho, hk⟩)))
          exact HK.out _ _ hk (⟨_, rfl, ho.base G.size⟩)
        · -- 10
          refine LinStep.plain rfl ?_
          intro QQ bb T ww hn hJ hd K HK
          obtain ⟨x9, t9, f9⟩ := hJ.dep hd 9 36 (by kernel_rfl) (by kernel_rfl)
          replace f9 : ∃ u, x9 = .tuple #[u, .int .i64 0] ∧ OwnP ww w3.heap.size u ll := f9
          have G := hJ.keep
          clear hJ hd hn
          obtain ⟨u9, rfl, g9⟩ := f9
          go_simp
          exact HK.out _ _ (Keep.refl _) (⟨_, rfl, g9⟩)
        · -- 11
          refine LinStep.plain rfl ?_
          intro QQ bb T ww hn hJ hd K HK
          obtain ⟨x10, t10, f10⟩ := hJ.dep hd 10 26 (by kernel_rfl) (by kernel_rfl)
          replace f10 : ∃ u, x10 = .tuple #[u, .int .i64 0] ∧ OwnP ww w3.heap.size u ll := f10
          have G := hJ.keep
          clear hJ hd hn
          obtain ⟨u9, rfl, g9⟩ := f10
          go_simp
          exact HK.out _ _ (Keep.refl _) (g9)
        · -- 12
          refine LinStep.plain rfl ?_
          intro QQ bb T ww hn hJ hd K HK
          obtain ⟨x10, t10, f10⟩ := hJ.dep hd 10 26 (by kernel_rfl) (by kernel_rfl)
          replace f10 : ∃ u, x10 = .tuple #[u, .int .i64 0] ∧ OwnP ww w3.heap.size u ll := f10
          have G := hJ.keep
          clear hJ hd hn
          obtain ⟨u9, rfl, g9⟩ := f10
          go_simp
          exact HK.out _ _ (Keep.refl _) rfl
        · -- 13
          refine LinStep.plain rfl ?_
          intro QQ bb T ww hn hJ hd K HK
          obtain ⟨x11, t11, f11⟩ := hJ.dep hd 11 37 (by kernel_rfl) (by kernel_rfl)
          replace f11 : OwnP ww w3.heap.size x11 ll := f11
          have G := hJ.keep
          clear hJ hd hn
          go_simp
          exact HK.out _ _ (Keep.refl _) (f11)
        · -- 14
          refine LinStep.plain rfl ?_
          intro QQ bb T ww hn hJ hd K HK
          obtain ⟨x12, t12, f12⟩ := hJ.dep hd 12 38 (by kernel_rfl) (by kernel_rfl)
          obtain rfl : x12 = .int .i64 0 := f12
          have G := hJ.keep
          clear hJ hd hn
          go_simp
          exact HK.out _ _ (Keep.refl _) rfl
    · obtain rfl : k = 4 := by omega
      obtain ⟨w7, hw7⟩ : ∃ x, x = wr := ⟨_, rfl⟩
      subst hw7
      have hA4 : ArrD w7 A D (fun j => (j : Int)) := by
        obtain ⟨cs, g1, g2, g3⟩ := HR.out.1
        exact ⟨cs, g1, g2, fun j hj => by have h := g3 j hj; exact ⟨h.1, h.2.1, h.2.2.1.trans (by show some (Value.int .u8 (if j < 4 then (j : Int) else (D j).g)) = some (Value.int .u8 (j : Int)); rw [if_pos hj]), h.2.2.2⟩⟩
      have HA4 := Lib.hid hA4
      have hAl := hA4.lt
      obtain ⟨l, hl⟩ : ∃ l, allK F C 4 = l := ⟨_, rfl⟩
      obtain ⟨N, hN⟩ : ∃ N, l.length = N := ⟨_, rfl⟩
      have hOW := HR.out.2.1
      rw [hl] at hOW hN4
      rw [hN] at hN4
      have HMEM : Hid (∀ r p, l[r]? = some p → ∃ j i, j < 4 ∧ i ≤ (C j).length ∧ p = pcAt (F j) j (C j) i) := Lib.hid (fun r p h => allK_mem (by rw [hl]; exact h))
      obtain ⟨gb, gc, rfl, hgb, hpc⟩ := own_any hOW (by omega)
      rw [hN]
      have HPC := Lib.hid hpc
      have HKW := Lib.hid HR.out.2.2.1
      have HO7 := Lib.hid (HO.out.keep HKW.out)
      clear hpc hOW HR hl hA4 hi hz0 hz1 hz2
      go_wp2
      have hM0 := mg_new w7 43 false 0 0 ⟨#[]⟩
      have k8 := (Keep.refl w7).alloc (.cells #[.bool false, .int .i64 0, .int .i64 0, .string ⟨#[]⟩] 43)
      obtain ⟨M, hMe⟩ : ∃ M, w7.heap.size = M := ⟨_, rfl⟩
      rw [hMe] at hM0 ⊢
      have hMw : w7.heap.size ≤ M := by omega
      generalize (w7.alloc (.cells #[.bool false, .int .i64 0, .int .i64 0, .string ⟨#[]⟩] 43)) = w8 at *
      clear hMe
      go_loopw [10] (fun s10 wq => ∃ (i : Nat) (m : Mg), i ≤ n2 ∧ s10 = .int .i64 i ∧ Hid (MgT 43 wq M m.on m.num m.next m.data ∧ Keep w7 wq ∧ Reached F C m)) (fun i _ => n2 - (intOf i).toNat)
      case atStart => exact ⟨0, zeroM, by omega, rfl, Lib.hid ⟨hM0, k8, .inl rfl⟩⟩
      case round =>
        obtain ⟨i, m, hi, rfl, HR⟩ := hrel
        by_cases hlt2 : i < n2 ∧ i < 60
        · obtain ⟨hi1, hi2⟩ := hlt2
          have hi1' : (i : Int) < (n2 : Int) := by omega
          have hi2' : (i : Int) < 60 := by omega
          obtain ⟨ob, oo, rfl, hoc⟩ : ∃ b off, a2 = some ⟨b, off, none⟩ ∧ w7.cell? ⟨b, off + i, none⟩ = some (.int .u8 (os.getD i 0)) := by
            rcases HO7.out with ⟨h, -⟩ | ⟨b, off, n', cap', h1, h2, h3, h4⟩
            · cases h; omega
            · cases h1; exact ⟨b, off, rfl, h4 i hi1⟩
          have hz := HBO.out i
          obtain ⟨z, hze⟩ : ∃ z, os.getD i 0 = z := ⟨_, rfl⟩
          rw [hze] at hoc hz
          obtain ⟨r, hr⟩ : ∃ r : Nat, z % (N : Int) = (r : Int) := ⟨(z % (N : Int)).toNat, by have := Int.emod_nonneg z (show (N : Int) ≠ 0 by omega); omega⟩
          have hrN : r < N := by have := Int.emod_lt_of_pos z (show (0 : Int) < (N : Int) by omega); omega
          have hr1 : z.tmod (N : Int) = (r : Int) := by rw [Int.tmod_eq_emod_of_nonneg hz.1, hr]
          have hz1 : IntKind.i64.wrap z = z := IntWalk.i64_in _ (by omega)
          have hr2 : IntKind.i64.wrap (r : Int) = (r : Int) := IntWalk.i64_in _ (by omega)
          obtain ⟨pp, hpp⟩ : ∃ pp, l[r]? = some pp := RowP.get (by omega)
          obtain ⟨j, q, hj, hq, hpe⟩ := HMEM.out r pp hpp
          have hst := mix_step HW.out HC4.out HR.out.2.2 hj hq
          rw [← hpe] at hst
          have hpn : pp.num = (j : Int) := by rw [hpe]; rfl
          obtain ⟨nx, hnxe⟩ : ∃ nx, joinM m pp = nx := ⟨_, rfl⟩
          obtain ⟨f9, hf9⟩ : ∃ f, joinS m pp = f := ⟨_, rfl⟩
          rw [hnxe, hf9] at hst
          obtain ⟨hre, hfr, hE, hnok, hon⟩ := hst
          obtain ⟨q0, q1, q2, q3⟩ := (HPC.out r pp hpp).keep HR.out.2.1
          have hoc := HR.out.2.1.some hoc
          have hM := HR.out.1
          have KK := Lib.hid HR.out.2.1
          obtain ⟨pS, pn, pc, pX⟩ := pp
          obtain ⟨mo, mn, mx, md⟩ := m
          obtain ⟨no, nn, nv, nd⟩ := nx
          have HJ := Lib.hid (And.intro (Lib.hid hnxe) (And.intro (Lib.hid hf9) (Lib.hid hE)))
          dsimp only at q0 q1 q2 q3 hM hpn hon
          obtain rfl := hpn
          have HCK : Hid (errM ⟨no, nn, nv, nd⟩ = 0) := Lib.hid (by unfold errM; rw [hnok]; rfl)
          have hMl := mg_lt hM
          have hji : (j : Int) < 4 := by omega
          have hDk := HD.out j hj
          unfold MDr.Ok at hDk
          have hFk := HF.out j
          obtain ⟨x, hx⟩ : ∃ x, (D j).x = x := ⟨_, rfl⟩
          obtain ⟨L, hLe⟩ : ∃ x, (D j).L = x := ⟨_, rfl⟩
          obtain ⟨V, hVe⟩ : ∃ x, (D j).V = x := ⟨_, rfl⟩
          rw [hx, hLe, hVe] at hDk
          rw [hx, hLe] at hFk
          obtain ⟨a0, len, cap, rfl⟩ := bytes_slice hDk.2.2.2.2
          have HT := Lib.hid hFk
          have HX := Lib.hid (And.intro hDk.1 hDk.2.2.1)
          have HCL : Hid (∀ w', Keep w7 w' → w'.cell? ⟨A, j * 4, none⟩ = some (.string x) ∧ w'.cell? ⟨A, j * 4 + 1, none⟩ = some (.int .u16 L) ∧ w'.cell? ⟨A, j * 4 + 2, none⟩ = some (.int .u8 (j : Int)) ∧ w'.cell? ⟨A, j * 4 + 3, none⟩ = some (.slice a0 len cap)) := Lib.hid (fun w' kk => by
            have h := (HA4.out.keep kk).cells hj
            rw [hx, hLe, hVe] at h
            exact h)
          clear hnxe hf9 hE hpp hze hpe hDk hFk hx hLe hVe hnok
          go_upto_region 17 with fail
          have kp := (Keep.refl wr).alloc (.cells #[.bool pS, .int .i64 (j : Int), .int .i64 pc, .string pX] 45)
          have hP := mg_new wr 45 pS (j : Int) pc pX
          have hM := mg_k hM kp
          have KK := Lib.hid (KK.out.trans kp)
          obtain ⟨B12, hB12⟩ : ∃ B, wr.heap.size = B := ⟨_, rfl⟩
          rw [hB12] at hP hMl ⊢
          generalize (wr.alloc (.cells #[.bool pS, .int .i64 (j : Int), .int .i64 pc, .string pX] 45)) = w9 at *
          obtain ⟨m0, m1, m2, m3⟩ := mg_cells hM
          obtain ⟨q0, q1, q2, q3⟩ := mg_cells hP
          go_upto_region 18 with (go_at_call 20; ((with_reducible refine (join_is mo mn mx md pS (j : Int) pc pX ⟨no, nn, nv, nd⟩ f9 0 _ HJ.out.1 HJ.out.2.1 HJ.out.2.2).mono ?_); rintro e' w10 ⟨rfl, k10⟩; dsimp only))
          have kn := k10.alloc (.cells #[.bool no, .int .i64 nn, .int .i64 nv, .string nd] 43)
          have hX := mg_new w10 43 no nn nv nd
          have hM := mg_k hM kn
          have hB1 : B12 < w10.heap.size := mg_lt (mg_k hP k10)
          have hP := mg_k hP kn
          have KK := Lib.hid (KK.out.trans kn)
          obtain ⟨B13, hB13⟩ : ∃ B, w10.heap.size = B := ⟨_, rfl⟩
          have hMB : M < B13 := by omega
          rw [hB13] at hX hB1 ⊢
          generalize (w10.alloc (.cells #[.bool no, .int .i64 nn, .int .i64 nv, .string nd] 43)) = w11 at *
          obtain ⟨m0, m1, m2, m3⟩ := mg_cells hM
          obtain ⟨q0, q1, q2, q3⟩ := mg_cells hP
          obtain ⟨n0', n1', n2', n3'⟩ := mg_cells hX
          obtain ⟨d0, d1, d2, d3⟩ := HCL.out _ KK.out
          clear kp kn k10 hB12 hB13 HJ
          by_cases he9 : f9.toList = []
          · clear hfr
            cases no with
            | false =>
              go_wp2_with (first | (go_at_call 22; ((with_reducible refine (check_is false nn nv nd 0 _ HCK).mono ?_); rintro e' w12 ⟨rfl, k12⟩; have hP := mg_k hP k12; have hX := mg_k hX k12; have hM := mg_k hM k12; have KK := Lib.hid (KK.out.trans k12); obtain ⟨m0, m1, m2, m3⟩ := mg_cells hM; obtain ⟨q0, q1, q2, q3⟩ := mg_cells hP; obtain ⟨n0', n1', n2', n3'⟩ := mg_cells hX; obtain ⟨d0, d1, d2, d3⟩ := HCL.out _ KK.out)) | (refine wpList_store_row rfl 43 _ _ rfl M rfl 43 _ #[.bool false, .int .i64 nn, .int .i64 nv, .string nd] rfl hM rfl (mg_one _ _ _ _) info_merge ?_))
              go_roundw
              case rel =>
                iterate 66 apply Exists.intro
                refine ⟨?_, rfl⟩
                exact ⟨i + 1, ⟨false, nn, nv, nd⟩, by omega, by go_num, Lib.hid ⟨mg_row hM _ _ _ _, KK.out.setRow hMw _, hre⟩⟩
              case measure => simp [intOf]; omega
            | true =>
              obtain rfl := hon rfl
              go_wp2_with (first | (go_at_call 22; ((with_reducible refine (check_is true (j : Int) nv nd 0 _ HCK).mono ?_); rintro e' w12 ⟨rfl, k12⟩; have hP := mg_k hP k12; have hX := mg_k hX k12; have hM := mg_k hM k12; have KK := Lib.hid (KK.out.trans k12); obtain ⟨m0, m1, m2, m3⟩ := mg_cells hM; obtain ⟨q0, q1, q2, q3⟩ := mg_cells hP; obtain ⟨n0', n1', n2', n3'⟩ := mg_cells hX; obtain ⟨d0, d1, d2, d3⟩ := HCL.out _ KK.out)) | (refine wpList_store_row rfl 43 _ _ rfl M rfl 43 _ #[.bool true, .int .i64 (j : Int), .int .i64 nv, .string nd] rfl hM rfl (mg_one _ _ _ _) info_merge ?_))
              go_roundw
              case rel =>
                iterate 66 apply Exists.intro
                refine ⟨?_, rfl⟩
                exact ⟨i + 1, ⟨true, (j : Int), nv, nd⟩, by omega, by go_num, Lib.hid ⟨mg_row hM _ _ _ _, KK.out.setRow hMw _, hre⟩⟩
              case measure => simp [intOf]; omega
          · obtain rfl : f9 = F j := hfr.resolve_left (fun h => he9 (by rw [h]; first | kernel_rfl | (unfold ByteArray.toList ByteArray.toList.loop; rfl) | simp [ByteArray.toList, ByteArray.toList.loop]))
            cases no with
            | false =>
              go_wp2_with (first | (go_at_call 22; ((with_reducible refine (check_is false nn nv nd 0 _ HCK).mono ?_); rintro e' w12 ⟨rfl, k12⟩; have hP := mg_k hP k12; have hX := mg_k hX k12; have hM := mg_k hM k12; have KK := Lib.hid (KK.out.trans k12); obtain ⟨m0, m1, m2, m3⟩ := mg_cells hM; obtain ⟨q0, q1, q2, q3⟩ := mg_cells hP; obtain ⟨n0', n1', n2', n3'⟩ := mg_cells hX; obtain ⟨d0, d1, d2, d3⟩ := HCL.out _ KK.out)) | (go_at_call 11; ((with_reducible refine (frame_is x L (j : Int) a0 len cap (F j) _ HX.out.1 HX.out.2 HT).mono ?_); rintro e' w13 ⟨rfl, k13⟩; have hP := mg_k hP k13; have hX := mg_k hX k13; have hM := mg_k hM k13; have KK := Lib.hid (KK.out.trans k13); obtain ⟨m0, m1, m2, m3⟩ := mg_cells hM; obtain ⟨q0, q1, q2, q3⟩ := mg_cells hP; obtain ⟨n0', n1', n2', n3'⟩ := mg_cells hX; obtain ⟨d0, d1, d2, d3⟩ := HCL.out _ KK.out)) | (refine wpList_store_row rfl 43 _ _ rfl M rfl 43 _ #[.bool false, .int .i64 nn, .int .i64 nv, .string nd] rfl hM rfl (mg_one _ _ _ _) info_merge ?_))
              go_roundw
              case rel =>
                iterate 66 apply Exists.intro
                refine ⟨?_, rfl⟩
                exact ⟨i + 1, ⟨false, nn, nv, nd⟩, by omega, by go_num, Lib.hid ⟨mg_row hM _ _ _ _, KK.out.setRow hMw _, hre⟩⟩
              case measure => simp [intOf]; omega
            | true =>
              obtain rfl := hon rfl
              go_wp2_with (first | (go_at_call 22; ((with_reducible refine (check_is true (j : Int) nv nd 0 _ HCK).mono ?_); rintro e' w12 ⟨rfl, k12⟩; have hP := mg_k hP k12; have hX := mg_k hX k12; have hM := mg_k hM k12; have KK := Lib.hid (KK.out.trans k12); obtain ⟨m0, m1, m2, m3⟩ := mg_cells hM; obtain ⟨q0, q1, q2, q3⟩ := mg_cells hP; obtain ⟨n0', n1', n2', n3'⟩ := mg_cells hX; obtain ⟨d0, d1, d2, d3⟩ := HCL.out _ KK.out)) | (go_at_call 11; ((with_reducible refine (frame_is x L (j : Int) a0 len cap (F j) _ HX.out.1 HX.out.2 HT).mono ?_); rintro e' w13 ⟨rfl, k13⟩; have hP := mg_k hP k13; have hX := mg_k hX k13; have hM := mg_k hM k13; have KK := Lib.hid (KK.out.trans k13); obtain ⟨m0, m1, m2, m3⟩ := mg_cells hM; obtain ⟨q0, q1, q2, q3⟩ := mg_cells hP; obtain ⟨n0', n1', n2', n3'⟩ := mg_cells hX; obtain ⟨d0, d1, d2, d3⟩ := HCL.out _ KK.out)) | (refine wpList_store_row rfl 43 _ _ rfl M rfl 43 _ #[.bool true, .int .i64 (j : Int), .int .i64 nv, .string nd] rfl hM rfl (mg_one _ _ _ _) info_merge ?_))
              go_roundw
              case rel =>
                iterate 66 apply Exists.intro
                refine ⟨?_, rfl⟩
                exact ⟨i + 1, ⟨true, (j : Int), nv, nd⟩, by omega, by go_num, Lib.hid ⟨mg_row hM _ _ _ _, KK.out.setRow hMw _, hre⟩⟩
              case measure => simp [intOf]; omega
        · have hcond : ¬ ((i : Int) < (n2 : Int)) ∨ ((i : Int) < (n2 : Int) ∧ ¬ ((i : Int) < 60)) := by omega
          rcases hcond with hc1 | ⟨hc1, hc2⟩
          · go_wp2
            go_ret
            exact ⟨rfl, HKW.out.trans HR.out.2.1⟩
          · go_wp2
            go_ret
            exact ⟨rfl, HKW.out.trans HR.out.2.1⟩
end Go.Proofs.Ytgejpbgpgklimaa
