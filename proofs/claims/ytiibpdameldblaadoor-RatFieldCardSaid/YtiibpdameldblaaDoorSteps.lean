/- Steps of the laws' walks: a call's fraction laid in a new variable, 'of', 'is', and the contracts with their results as equations. -/
import Derived.Test.YtiibpdameldblaaDoorRefFloor
import Derived.Test.YtiibpdameldblaaDoorOf
import Derived.Test.YtiibpdameldblaaDoorRound
import Derived.Deep.RegionWith
import Derived.Deep.DeepCutAuto
import Derived.Deep.CutRange
import Derived.Deep.DrawnRows
namespace Go.Proofs.YtiibpdameldblaaDoor
open Go Go.RowKit
attribute [local go_sem ↓] Go.wp_at_zero Go.wp_at_succ

/-- The world behind 'x, e := call': the new variable holds the fraction. -/
theorem fracG {W w1 : World} (x y : Value) (G : Grown W w1) : Grown W (w1.alloc (.cells #[x, y] 23)) := Grown.alloc G _ _
theorem fracKeep {W w1 w2 : World} {x y : Value} {t : TypeId} (G : Grown W w1) (h : Grown (w1.alloc (.cells #[x, y] t)) w2) :
    Hid (Grown W w2) ∧ w2.cell? ⟨w1.heap.size, 0, none⟩ = some x ∧ w2.cell? ⟨w1.heap.size, 1, none⟩ = some y ∧ Hid (Grown w1 w2) :=
  ⟨Lib.hid (grownTrans (Grown.alloc G _ _) h), grownSome h (by simp [go_sem]), grownSome h (by simp [go_sem]), Lib.hid (grownTrans (Grown.alloc (Grown.refl _) _ _) h)⟩

theorem add_is (a b c d : Int) (r : Int × Int × Int) (h : addF a b c d = r) (w : World) (hT : Tab w) : Calls Tryd.prog 16 #[.agg #[.int .i64 a, .int .i64 b], .agg #[.int .i64 c, .int .i64 d]] w (Frac r w) := h ▸ add_any a b c d w hT
theorem sub_is (a b c d : Int) (r : Int × Int × Int) (h : subF a b c d = r) (w : World) (hT : Tab w) : Calls Tryd.prog 18 #[.agg #[.int .i64 a, .int .i64 b], .agg #[.int .i64 c, .int .i64 d]] w (Frac r w) := h ▸ sub_any a b c d w hT
theorem mul_is (a b c d : Int) (r : Int × Int × Int) (h : mulF a b c d = r) (w : World) (hT : Tab w) : Calls Tryd.prog 20 #[.agg #[.int .i64 a, .int .i64 b], .agg #[.int .i64 c, .int .i64 d]] w (Frac r w) := h ▸ mul_any a b c d w hT
theorem div_is (a b c d : Int) (r : Int × Int × Int) (h : divF a b c d = r) (w : World) (hT : Tab w) : Calls Tryd.prog 22 #[.agg #[.int .i64 a, .int .i64 b], .agg #[.int .i64 c, .int .i64 d]] w (Frac r w) := h ▸ div_any a b c d w hT
theorem min_is (a b c d : Int) (r : Int × Int × Int) (h : minF a b c d = r) (w : World) (hT : Tab w) : Calls Tryd.prog 26 #[.agg #[.int .i64 a, .int .i64 b], .agg #[.int .i64 c, .int .i64 d]] w (Frac r w) := h ▸ min_any a b c d w hT
theorem max_is (a b c d : Int) (r : Int × Int × Int) (h : maxF a b c d = r) (w : World) (hT : Tab w) : Calls Tryd.prog 28 #[.agg #[.int .i64 a, .int .i64 b], .agg #[.int .i64 c, .int .i64 d]] w (Frac r w) := h ▸ max_any a b c d w hT
theorem floor_is (a b : Int) (r : Int × Int) (h : floorF a b = r) (w : World) (hT : Tab w) : Calls Tryd.prog 30 #[.agg #[.int .i64 a, .int .i64 b]] w (Two r w) := h ▸ rfloor_any a b w hT
theorem ceil_is (a b : Int) (r : Int × Int) (h : ceilF a b = r) (w : World) (hT : Tab w) : Calls Tryd.prog 32 #[.agg #[.int .i64 a, .int .i64 b]] w (Two r w) := h ▸ rceil_any a b w hT
theorem cmp_is' (a b c d : Int) (r : Int × Int) (h : cmpF a b c d = r) (w : World) (hT : Tab w) : Calls Tryd.prog 24 #[.agg #[.int .i64 a, .int .i64 b], .agg #[.int .i64 c, .int .i64 d]] w (Two r w) := cmp_is a b c d r w hT h
theorem check_is' (n d c : Int) (h : checkS n d = c) (w : World) (hT : Tab w) : Calls Tryd.prog 12 #[.agg #[.int .i64 n, .int .i64 d]] w (Num c w) := check_is n d c w hT h

theorem blkNe {w : World} {b o : Nat} {v : Value} (h : w.cell? ⟨b, o, none⟩ = some v) : ¬ b = w.heap.size := by have := cellBlock h; omega
theorem freshD {w w1 : World} (h : Grown w.drew w1) : Hid (Grown w w1) := Lib.hid (grownTrans (Grown.drew (Grown.refl _)) h)

/-- 'of' returns its fraction. -/
theorem of_frac (n d : Int) (w : World) : Calls Tryd.prog 35 #[.int .i64 n, .int .i64 d] w (One (n, d) w) := by
  go_enter Tryd.func35, Tryd.ntmps35
  go_wp2
  exact bodyPost_ret (v := .agg #[.int .i64 n, .int .i64 d]) (by simp [results, Tryd.results35, go_sem]) rfl ⟨rfl, Grown.alloc (Grown.refl _) _ _⟩

/-- 'is' says true of a fraction and its parts. -/
theorem is_yes (n d : Int) (w : World) : Calls Tryd.prog 36 #[.agg #[.int .i64 n, .int .i64 d], .int .i64 0, .int .i64 n, .int .i64 d] w fun e w' => e = .returned (.bool true) ∧ Grown w w' := by
  go_enter Tryd.func36, Tryd.ntmps36
  go_upto_region 1 with fail
  have GW : Hid (Grown w (w.alloc (.cells #[.int .i64 n, .int .i64 d] 23))) := Lib.hid (Grown.alloc (Grown.refl _) _ _)
  have c0 : (w.alloc (.cells #[.int .i64 n, .int .i64 d] 23)).cell? ⟨w.heap.size, 0, none⟩ = some (.int .i64 n) := by simp [go_sem]
  have c1 : (w.alloc (.cells #[.int .i64 n, .int .i64 d] 23)).cell? ⟨w.heap.size, 1, none⟩ = some (.int .i64 d) := by simp [go_sem]
  generalize w.alloc (.cells #[.int .i64 n, .int .i64 d] 23) = W0 at *
  generalize w.heap.size = B0 at *
  go_region_with (go_at_call 35; ((with_reducible refine (of_frac n d _).mono ?_); rintro _ w1 ⟨rfl, hg1⟩; (first | (have GA := freshD hg1) | (have GA := Lib.hid hg1)); have k0 := grownSome GA.out c0; have k1 := grownSome GA.out c1))
  all_goals
    go_wp2_with fail
    go_ret
    exact ⟨rfl, grownTrans GW.out GA.out⟩

end Go.Proofs.YtiibpdameldblaaDoor
