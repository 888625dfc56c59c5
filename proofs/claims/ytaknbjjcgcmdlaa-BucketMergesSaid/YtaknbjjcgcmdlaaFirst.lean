/- What firstBreach of the package bucket returns, at every valid bucket and trace: the index of the first arrival behind which the token level is negative; -1 if there is none. -/
import Derived.Test.YtaknbjjcgcmdlaaBreach
namespace Go.Proofs.Ytaknbjjcgcmdlaa
open Go Go.RowKit Go.Shelf
attribute [local go_sem] Oper.semAt_some

set_option maxRecDepth 100000 in
set_option maxHeartbeats 2000000 in
theorem firstBreach_in (F : Fence) (n : Nat) (h38 : F.fn 23) (h46 : F.fn 29) (h48 : F.fn 31) (hro : F.round = none) (hn : 3 ≤ n) (B R : Int) (a0 : Option Addr) (len cap : Nat) (l : List (Int × Int)) (hBk : okBk B R = true) (hok : okT l = true) (w : World)
    (hI : Value.slice a0 len cap = .slice none 0 0 ∧ l = [] ∨ ∃ b off cap', Value.slice a0 len cap = .slice (some ⟨b, off, none⟩) l.length cap' ∧ (0 < l.length → b < w.heap.size) ∧ (∀ j, j < l.length → w.cell? ⟨b, off + j * 2, none⟩ = some (.int .i64 (atL l j))) ∧ (∀ j, j < l.length → w.cell? ⟨b, off + j * 2 + 1, none⟩ = some (.int .i64 (szL l j)))) :
    CallsIn F n Try.prog 23 #[.agg #[.int .i64 B, .int .i64 R], .slice a0 len cap] w fun e W' => e = .returned (.int .i64 (firstL B R l)) ∧ Below w.heap.size w W' := by
  have h1 : 1 ≤ n := by omega
  have HI := Lib.hid hI
  have HBK := Lib.hid hBk
  have HOK := Lib.hid hok
  clear hI hBk hok
  refine callsIn_of_wp_marks Try.func23 rfl h38 ?_ hro
  simp only [Try.ntmps23, List.size_toArray, List.length_cons, List.length_nil, Nat.reduceAdd, Nat.reduceSub, Array.replicate_succ, Array.replicate_zero, List.push_toArray, List.append_toArray, List.nil_append, List.cons_append]
  gi_wp2_with (gi_at_call 29; refine (levels_in F (n - 1) h46 hro _ _ _ _ _ _).mono ?_; rintro e w' ⟨rfl, rfl⟩)
  have cr : ∀ (o1 o2 o3 : Obj), ((((w.alloc o1).alloc (.cells #[.int .i64 0] 3)).alloc o2).alloc o3).cell? ⟨w.heap.size + 1, 0, none⟩ = some (.int .i64 0) := fun o1 o2 o3 => by simp [go_sem]
  have fr : ∀ (o1 o2 o3 : Obj), ((((w.alloc o1).alloc (.cells #[.int .i64 0] 3)).alloc o2).alloc o3).frozen? ⟨w.heap.size + 1, 0, none⟩ = false := fun o1 o2 o3 => by simp [go_sem]
  have cb0 : ∀ (o1 o2 o3 : Obj), ((((w.alloc o1).alloc o2).alloc (.cells #[.int .i64 B, .int .i64 R] 30)).alloc o3).cell? ⟨w.heap.size + 1 + 1, 0, none⟩ = some (.int .i64 B) := fun o1 o2 o3 => by simp [go_sem]
  have cb1 : ∀ (o1 o2 o3 : Obj), ((((w.alloc o1).alloc o2).alloc (.cells #[.int .i64 B, .int .i64 R] 30)).alloc o3).cell? ⟨w.heap.size + 1 + 1, 1, none⟩ = some (.int .i64 R) := fun o1 o2 o3 => by simp [go_sem]
  have cs : ∀ (o1 o2 o3 : Obj), ((((w.alloc o1).alloc o2).alloc o3).alloc (.cells #[.slice a0 len cap] 32)).cell? ⟨w.heap.size + 1 + 1 + 1, 0, none⟩ = some (.slice a0 len cap) := fun o1 o2 o3 => by simp [go_sem]
  have hB0 : ∀ (o1 o2 o3 o4 : Obj), Below w.heap.size w ((((w.alloc o1).alloc o2).alloc o3).alloc o4) := fun o1 o2 o3 o4 => ((((Below.refl _ w).alloc (Nat.le_refl _) _).alloc (by simp) _).alloc (by simp; omega) _).alloc (by simp; omega) _
  have hsz : ∀ (o1 o2 o3 o4 : Obj), ((((w.alloc o1).alloc o2).alloc o3).alloc o4).heap.size = w.heap.size + 1 + 1 + 1 + 1 := fun o1 o2 o3 o4 => by simp
  have cr := cr (Obj.cells #[Value.int IntKind.i64 B, Value.int IntKind.i64 R] 30) (Obj.cells #[Value.int IntKind.i64 B, Value.int IntKind.i64 R] 30) (Obj.cells #[Value.slice a0 len cap] 32)
  have fr := fr (Obj.cells #[Value.int IntKind.i64 B, Value.int IntKind.i64 R] 30) (Obj.cells #[Value.int IntKind.i64 B, Value.int IntKind.i64 R] 30) (Obj.cells #[Value.slice a0 len cap] 32)
  have cb0 := cb0 (Obj.cells #[Value.int IntKind.i64 B, Value.int IntKind.i64 R] 30) (Obj.cells #[Value.int IntKind.i64 0] 3) (Obj.cells #[Value.slice a0 len cap] 32)
  have cb1 := cb1 (Obj.cells #[Value.int IntKind.i64 B, Value.int IntKind.i64 R] 30) (Obj.cells #[Value.int IntKind.i64 0] 3) (Obj.cells #[Value.slice a0 len cap] 32)
  have cs := cs (Obj.cells #[Value.int IntKind.i64 B, Value.int IntKind.i64 R] 30) (Obj.cells #[Value.int IntKind.i64 0] 3) (Obj.cells #[Value.int IntKind.i64 B, Value.int IntKind.i64 R] 30)
  have hB0 := hB0 (Obj.cells #[Value.int IntKind.i64 B, Value.int IntKind.i64 R] 30) (Obj.cells #[Value.int IntKind.i64 0] 3) (Obj.cells #[Value.int IntKind.i64 B, Value.int IntKind.i64 R] 30) (Obj.cells #[Value.slice a0 len cap] 32)
  have hsz := hsz (Obj.cells #[Value.int IntKind.i64 B, Value.int IntKind.i64 R] 30) (Obj.cells #[Value.int IntKind.i64 0] 3) (Obj.cells #[Value.int IntKind.i64 B, Value.int IntKind.i64 R] 30) (Obj.cells #[Value.slice a0 len cap] 32)
  obtain ⟨W0, hW0⟩ : ∃ W0, ((((w.alloc (Obj.cells #[Value.int IntKind.i64 B, Value.int IntKind.i64 R] 30)).alloc (Obj.cells #[Value.int IntKind.i64 0] 3)).alloc (Obj.cells #[Value.int IntKind.i64 B, Value.int IntKind.i64 R] 30)).alloc (Obj.cells #[Value.slice a0 len cap] 32)) = W0 := ⟨_, rfl⟩
  rw [hW0] at cr fr cb0 cb1 cs hB0 hsz
  rw [hW0]
  clear hW0
  refine wpIn_rangeFunc_ownG hro h1 (gf := 31) (lb := #[.pointer (some ⟨w.heap.size + 1 + 1, 0, none⟩), .pointer (some ⟨w.heap.size + 1 + 1 + 1, 0, none⟩)]) rfl h48 (enters_of Try.func31 (by kernel_rfl) rfl)
    (levels_stops F (n - 1) h48 hro (by omega) (w.heap.size + 1 + 1) (w.heap.size + 1 + 1 + 1) W0.heap.size B R _ l HBK.out HOK.out W0 (Nat.le_refl _) (by omega) (by omega) cb0 cb1 cs
      (HI.out.imp id fun ⟨b, off, cap', e, hb, h4, h5⟩ => ⟨b, off, cap', e, fun h => by have := hb h; omega, fun j hj => (hB0.cell (p := ⟨b, off + j * 2, none⟩) (hb (by omega))).trans (h4 j hj), fun j hj => (hB0.cell (p := ⟨b, off + j * 2 + 1, none⟩) (hb (by omega))).trans (h5 j hj)⟩))
    belowK_t (belowK_b (Nat.le_refl _)) (Below.refl _ _) (fun _ => rfl)
    (fun pre W => ((∀ p ∈ pre, 0 ≤ p.2) ∧ W.cell? ⟨w.heap.size + 1, 0, none⟩ = some (.int .i64 0) ∧ W.frozen? ⟨w.heap.size + 1, 0, none⟩ = false) ∧ Below w.heap.size w W)
    (fun c pre W => (c = .ret ∧ ∃ ini last, pre = ini ++ [last] ∧ (∀ p ∈ ini, 0 ≤ p.2) ∧ last.2 < 0 ∧ W.cell? ⟨w.heap.size + 1, 0, none⟩ = some (.int .i64 (last.1 : Int))) ∧ Below w.heap.size w W)
    (OwnFrom.and (Own.from (fun s A B row hs hg hr => ⟨hs.1, cell_kept hs.2.1 hg hr, (frozen_kept hs.2.1 hg hr).trans hs.2.2⟩) _) (ownFrom_below (Nat.le_refl _) (by omega)))
    (fun c => OwnFrom.and (Own.from (fun s A B row hs hg hr => by obtain ⟨hc, ini, last, e1, e2, e3, e4⟩ := hs; exact ⟨hc, ini, last, e1, e2, e3, cell_kept e4 hg hr⟩) _) (ownFrom_below (Nat.le_refl _) (by omega)))
    ⟨⟨by simp, cr, fr⟩, hB0⟩
    (fun x => { tmps := #[.agg #[.int .i64 B, .int .i64 R], .slice a0 len cap, .pointer (some ⟨w.heap.size, 0, none⟩), undef, .pointer (some ⟨w.heap.size + 1, 0, none⟩), .int .i64 (x.1 : Int), .int .i64 x.2, .agg #[.int .i64 B, .int .i64 R], .slice a0 len cap,
      .func (.func 31) #[] #[.pointer (some ⟨w.heap.size + 1 + 1, 0, none⟩), .pointer (some ⟨w.heap.size + 1 + 1 + 1, 0, none⟩)], .int .i64 (x.1 : Int), .int .i64 x.2, undef, undef, undef], defers := [] }) ?assign ?body ?done ?stop
  case assign =>
    intro y x W K hK
    gi_wp2
    exact hK
  case body =>
    rintro y pre x W ⟨⟨hp, hcr, hfr⟩, hB⟩ _
    gi_wp2
    · have hx : x.2 < 0 := by assumption
      exact ⟨(KeepsOthers.setCell _ _ _).from _, ⟨rfl, pre, x, rfl, hp, hx, World.cell?_setCell_same' _ _ _ (by rw [hcr]; rfl)⟩, hB.setCell (p := ⟨w.heap.size + 1, 0, none⟩) (by show w.heap.size ≤ w.heap.size + 1; omega) _⟩
    · have hx : 0 ≤ x.2 := by assumption
      exact ⟨KeepsFrom.refl _ _, Below.refl _ _, ⟨fun p hp' => (List.mem_append.1 hp').elim (hp p) (fun e => by simp at e; subst e; exact hx), hcr, hfr⟩, hB⟩
  case done =>
    rintro D ys W hD rfl ⟨⟨hne, hcr, hfr⟩, hB⟩ hK
    gi_wp2
    have hK' := (KeepsOthers.setCell W ⟨w.heap.size + 1, 0, none⟩ (.int .i64 (-1))).same D _ hK rfl
    refine ⟨by simp, .inl ⟨_, _, rfl, run_takeDeferred hK', ?_⟩⟩
    have hc5 := cell_kept (World.cell?_setCell_same' W ⟨w.heap.size + 1, 0, none⟩ (.int .i64 (-1)) (by rw [hcr]; rfl)) (grownBy_putObj' _ D (.deferred none)) (fun r e => by cases e; exact ⟨_, hK', rfl⟩)
    have er : firstL B R l = -1 := firstIdx_none fun j hj => by
      have := hne (levAt B R (atL l) (szL l) j) (by simp only [upto, List.mem_map, List.mem_range]; exact ⟨j, hj, rfl⟩)
      unfold levNeg
      simp only [levAt] at this
      rw [decide_eq_false_iff_not]; omega
    refine ⟨.int .i64 (-1), ?_, by rw [er], (hB.setCell (p := ⟨w.heap.size + 1, 0, none⟩) (by show w.heap.size ≤ w.heap.size + 1; omega) _).trans (belowK_b (w := w) (Nat.le_refl _) _ D _ _ (by omega) hK' rfl rfl)⟩
    simp [results, Try.f23, go_sem, hc5]
  case stop =>
    rintro D c pre W hD ⟨k, hk, rfl⟩ ⟨⟨rfl, ini, last, e1, e2, e3, hcr⟩, hB⟩ hK
    gi_wp2
    refine ⟨by simp, .inl ⟨_, _, rfl, run_takeDeferred hK, ?_⟩⟩
    have hc5 := cell_kept hcr (grownBy_putObj' _ D (.deferred none)) (fun r e => by cases e; exact ⟨_, hK, rfl⟩)
    obtain ⟨k', rfl⟩ : ∃ k', k = k' + 1 := by
      cases k with
      | zero => simp [upto] at e1
      | succ k' => exact ⟨k', rfl⟩
    rw [upto_succ] at e1
    obtain ⟨rfl, e5⟩ := List.append_inj' e1 rfl
    obtain rfl : levAt B R (atL l) (szL l) k' = last := by simpa using e5
    have er : firstL B R l = (k' : Int) := firstIdx_some (by omega) (by unfold levNeg; rw [decide_eq_true_eq]; exact e3) fun j hj => by
      have := e2 (levAt B R (atL l) (szL l) j) (by simp only [upto, List.mem_map, List.mem_range]; exact ⟨j, hj, rfl⟩)
      unfold levNeg
      simp only [levAt] at this
      rw [decide_eq_false_iff_not]; omega
    refine ⟨.int .i64 (k' : Int), ?_, by rw [er], hB.trans (belowK_b (w := w) (Nat.le_refl _) _ D _ _ (by omega) hK rfl rfl)⟩
    simp [results, Try.f23, go_sem, hc5, levAt]

theorem keepBelow {w w' : World} (h : Below w.heap.size w w') : Keep w w' := ⟨h.os, h.output, h.size, h.block⟩

theorem firstBreach_any (B R : Int) (v : Value) (l : List (Int × Int)) (w : World) (hBk : okBk B R = true) (hok : okT l = true) (h : RowAt w v l) :
    Calls Try.prog 23 #[.agg #[.int .i64 B, .int .i64 R], v] w (Res (.int .i64 (firstL B R l)) w) := by
  rcases h with ⟨rfl, rfl⟩ | ⟨b, off, n, cap, rfl, rfl, h3, h4, h5⟩
  · exact (callsIn_wide (n := 3)).1 ((firstBreach_in _ 3 trivial trivial trivial rfl (Nat.le_refl _) B R none 0 0 [] hBk hok w (Or.inl ⟨rfl, rfl⟩)).mono fun e w' ⟨he, hb⟩ => ⟨he, keepBelow hb⟩)
  · exact (callsIn_wide (n := 3)).1 ((firstBreach_in _ 3 trivial trivial trivial rfl (Nat.le_refl _) B R _ _ cap l hBk hok w (Or.inr ⟨b, off, cap, rfl, fun h => cellBlock (h4 0 h), h4, h5⟩)).mono fun e w' ⟨he, hb⟩ => ⟨he, keepBelow hb⟩)

end Go.Proofs.Ytaknbjjcgcmdlaa
