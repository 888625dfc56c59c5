/- What checkAll of the package rat returns for two fractions, and both and Check of the reference. -/
import Derived.Test.YtiibpdameldblaaDoorCheck
namespace Go.Proofs.YtiibpdameldblaaDoor
open Go Go.RowKit

theorem cells4 (w : World) (t : TypeId) (a b c d : Value) (k : Nat) (hk : k = w.heap.size) {w' : World} (h : Grown (w.alloc (.cells #[a, b, c, d] t)) w') :
    w'.cell? ⟨k, 0, none⟩ = some a ∧ w'.cell? ⟨k, 1, none⟩ = some b ∧ w'.cell? ⟨k, 2, none⟩ = some c ∧ w'.cell? ⟨k, 3, none⟩ = some d := by
  subst hk
  exact ⟨grownSome h (by simp [go_sem]), grownSome h (by simp [go_sem]), grownSome h (by simp [go_sem]), grownSome h (by simp [go_sem])⟩

theorem check_is (n d c : Int) (w : World) (hT : Tab w) (h : checkS n d = c) : Calls Tryd.prog 12 #[.agg #[.int .i64 n, .int .i64 d]] w (Num c w) := h ▸ check_any n d w hT
theorem checkS_yes {n d : Int} (h : okR n d = true) : checkS n d = 0 := by unfold checkS; rw [if_pos h]
theorem checkS_no {n d : Int} (h : okR n d = false) : checkS n d = 120 := by unfold checkS; rw [if_neg (by rw [h]; simp)]
theorem bothS_1 {a b : Int} (c d : Int) (h : okR a b = false) : bothS a b c d = 120 := by unfold bothS; rw [if_neg (by rw [h]; simp)]
theorem bothS_2 (a b : Int) {c d : Int} (h : okR c d = false) : bothS a b c d = 120 := by unfold bothS; rw [if_neg (by rw [h]; simp)]
theorem bothS_3 {a b c d : Int} (h : okR a b = true) (k : okR c d = true) : bothS a b c d = 0 := by unfold bothS; rw [if_pos ⟨h, k⟩]

/-- How far checkAll has come. -/
def Came (k : Nat) (x y : Bool) : Prop := (1 ≤ k → x = true) ∧ (2 ≤ k → y = true)

set_option maxHeartbeats 1000000 in
theorem checkAll2 (a b c d : Int) (w : World) (kk : Nat) (hT : Tab w) (hk : kk = w.heap.size) :
    Calls Tryd.prog 50 #[.slice (some ⟨kk, 0, none⟩) 2 2] (w.alloc (.cells #[.int .i64 a, .int .i64 b, .int .i64 c, .int .i64 d] 23)) (Num (bothS a b c d) w) := by
  have HT := Lib.hid hT
  have HK := Lib.hid hk
  have HW : Hid (Grown w (w.alloc (.cells #[.int .i64 a, .int .i64 b, .int .i64 c, .int .i64 d] 23))) := Lib.hid (by go_grown)
  have HC : Hid (∀ w', Grown (w.alloc (.cells #[.int .i64 a, .int .i64 b, .int .i64 c, .int .i64 d] 23)) w' → w'.cell? ⟨kk, 0, none⟩ = some (.int .i64 a) ∧ w'.cell? ⟨kk, 1, none⟩ = some (.int .i64 b) ∧ w'.cell? ⟨kk, 2, none⟩ = some (.int .i64 c) ∧ w'.cell? ⟨kk, 3, none⟩ = some (.int .i64 d)) :=
    Lib.hid fun w' h => cells4 w _ _ _ _ _ kk hk h
  clear hT hk
  generalize (w.alloc (.cells #[.int .i64 a, .int .i64 b, .int .i64 c, .int .i64 d] 23)) = W at *
  go_enter Tryd.func50, Tryd.ntmps50
  go_wp2
  go_loopw [8] (fun i wr => ∃ k : Nat, k ≤ 2 ∧ i = .int .i64 k ∧ Hid (Grown W wr) ∧ Came k (okR a b) (okR c d)) (fun i _ => 2 - (intOf i).toNat)
  case atStart => exact ⟨0, by omega, rfl, Lib.hid (Grown.refl _), fun h => absurd h (by omega), fun h => absurd h (by omega)⟩
  case round =>
    obtain ⟨k, hk2, rfl, HG, hc⟩ := hrel
    have HCame := Lib.hid hc
    clear hc
    obtain ⟨c0, c1, c2, c3⟩ := HC.out wr HG.out
    obtain rfl | rfl | rfl : k = 0 ∨ k = 1 ∨ k = 2 := by omega
    · cases h : okR a b with
      | true =>
        have E := Lib.hid (checkS_yes h)
        have H := Lib.hid h
        clear h
        go_wp2_with (go_at_call 12; ((with_reducible refine (check_is a b 0 _ (HT.out.grown (grownTrans HW.out (grownTrans HG.out (by go_grown)))) E.out).mono ?_); rintro e w1 ⟨rfl, hg1⟩))
        go_roundw
        case rel => exact ⟨1, by omega, rfl, Lib.hid (grownTrans HG.out (grownTrans (by go_grown) hg1)), fun _ => rfl, fun h => absurd h (by omega)⟩
        case measure => simp [intOf]
      | false =>
        have E := Lib.hid (checkS_no h)
        have H := Lib.hid h
        clear h
        go_wp2_with (go_at_call 12; ((with_reducible refine (check_is a b 120 _ (HT.out.grown (grownTrans HW.out (grownTrans HG.out (by go_grown)))) E.out).mono ?_); rintro e w1 ⟨rfl, hg1⟩))
        go_ret
        exact ⟨by rw [bothS_1 c d H.out]; rfl, grownTrans HW.out (grownTrans HG.out (grownTrans (by go_grown) hg1))⟩
    · cases h : okR c d with
      | true =>
        have E := Lib.hid (checkS_yes h)
        have H := Lib.hid h
        clear h
        go_wp2_with (go_at_call 12; ((with_reducible refine (check_is c d 0 _ (HT.out.grown (grownTrans HW.out (grownTrans HG.out (by go_grown)))) E.out).mono ?_); rintro e w1 ⟨rfl, hg1⟩))
        go_roundw
        case rel => exact ⟨2, by omega, rfl, Lib.hid (grownTrans HG.out (grownTrans (by go_grown) hg1)), fun _ => HCame.out.1 (by omega), fun _ => rfl⟩
        case measure => simp [intOf]
      | false =>
        have E := Lib.hid (checkS_no h)
        have H := Lib.hid h
        clear h
        go_wp2_with (go_at_call 12; ((with_reducible refine (check_is c d 120 _ (HT.out.grown (grownTrans HW.out (grownTrans HG.out (by go_grown)))) E.out).mono ?_); rintro e w1 ⟨rfl, hg1⟩))
        go_ret
        exact ⟨by rw [bothS_2 a b H.out]; rfl, grownTrans HW.out (grownTrans HG.out (grownTrans (by go_grown) hg1))⟩
    · go_wp2
      go_ret
      exact ⟨by rw [bothS_3 (HCame.out.1 (by omega)) (HCame.out.2 (by omega))]; rfl, grownTrans HW.out HG.out⟩

theorem right_is (n d : Int) (b : Bool) (w : World) (h : okR n d = b) : Calls Tryd.prog 41 #[.agg #[.int .i64 n, .int .i64 d]] w fun e w' => e = .returned (.bool b) ∧ Grown w w' := h ▸ right_any n d w

theorem refboth_any (a b c d : Int) (w : World) : Calls Tryd.prog 46 #[.agg #[.int .i64 a, .int .i64 b], .agg #[.int .i64 c, .int .i64 d]] w (Num (bothS a b c d) w) := by
  cases h : okR a b with
  | false =>
    rw [bothS_1 c d h]
    have H := Lib.hid h
    clear h
    go_enter Tryd.func46, Tryd.ntmps46
    go_wp2_with (go_at_call 41; ((with_reducible refine (right_is a b false _ H.out).mono ?_); rintro e w1 ⟨rfl, hg1⟩))
    go_ret
    exact ⟨rfl, grownTrans (by go_grown) hg1⟩
  | true =>
    cases h2 : okR c d with
    | false =>
      rw [bothS_2 a b h2]
      have H := Lib.hid h
      have H2 := Lib.hid h2
      clear h h2
      go_enter Tryd.func46, Tryd.ntmps46
      go_wp2_with (first | (go_at_call 41; ((with_reducible refine (right_is a b true _ H.out).mono ?_); rintro e w1 ⟨rfl, hg1⟩; have ca : w1.cell? ⟨w.heap.size + 1, 0, none⟩ = some (.int .i64 c) := grownSome hg1 (by simp [go_sem]); have cb : w1.cell? ⟨w.heap.size + 1, 1, none⟩ = some (.int .i64 d) := grownSome hg1 (by simp [go_sem]))) | (go_at_call 41; ((with_reducible refine (right_is c d false _ H2.out).mono ?_); rintro e w2 ⟨rfl, hg2⟩)))
      go_ret
      exact ⟨rfl, grownTrans (grownTrans (by go_grown) hg1) hg2⟩
    | true =>
      rw [bothS_3 h h2]
      have H := Lib.hid h
      have H2 := Lib.hid h2
      clear h h2
      go_enter Tryd.func46, Tryd.ntmps46
      go_wp2_with (first | (go_at_call 41; ((with_reducible refine (right_is a b true _ H.out).mono ?_); rintro e w1 ⟨rfl, hg1⟩; have ca : w1.cell? ⟨w.heap.size + 1, 0, none⟩ = some (.int .i64 c) := grownSome hg1 (by simp [go_sem]); have cb : w1.cell? ⟨w.heap.size + 1, 1, none⟩ = some (.int .i64 d) := grownSome hg1 (by simp [go_sem]))) | (go_at_call 41; ((with_reducible refine (right_is c d true _ H2.out).mono ?_); rintro e w2 ⟨rfl, hg2⟩)))
      go_ret
      exact ⟨rfl, grownTrans (grownTrans (by go_grown) hg1) hg2⟩

theorem refcheck_any (n d : Int) (w : World) : Calls Tryd.prog 13 #[.agg #[.int .i64 n, .int .i64 d]] w (Num (checkS n d) w) := by
  cases h : okR n d with
  | true =>
    rw [checkS_yes h]
    have H := Lib.hid h
    clear h
    go_enter Tryd.func13, Tryd.ntmps13
    go_wp2_with (go_at_call 41; ((with_reducible refine (right_is n d true _ H.out).mono ?_); rintro e w1 ⟨rfl, hg1⟩))
    go_ret
    exact ⟨rfl, grownTrans (by go_grown) hg1⟩
  | false =>
    rw [checkS_no h]
    have H := Lib.hid h
    clear h
    go_enter Tryd.func13, Tryd.ntmps13
    go_wp2_with (go_at_call 41; ((with_reducible refine (right_is n d false _ H.out).mono ?_); rintro e w1 ⟨rfl, hg1⟩))
    go_ret
    exact ⟨rfl, grownTrans (by go_grown) hg1⟩

end Go.Proofs.YtiibpdameldblaaDoor
