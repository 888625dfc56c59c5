/- What clearingTime of the package curve returns: the least number that its iterator yields. -/
import Derived.Test.YtmamadgikjkjdaaClear
import Derived.Test.YtmamadgikjkjdaaErrs
namespace Go.Proofs.Ytmamadgikjkjdaa
open Go Go.RowKit Go.Shelf
attribute [local go_sem] Oper.semAt_some

def minL (m : Int) (l : List Int) : Int := l.foldl min m
theorem minL_snoc (m : Int) (l : List Int) (x : Int) : minL m (l ++ [x]) = min (minL m l) x := by simp [minL]
def clearS (l : List (Int × Int)) (R : Int) : Int := minL 1125899906842624 (outerL (atL l) (szL l) R l.length l.length)

theorem keepC_set {r : Nat} {W : World} {v : Value} : KeepC r W (W.setCell ⟨r, 0, none⟩ v) := by
  intro b o u hb hc
  have hb' : ¬ r = b := fun h => hb h.symm
  simp [go_sem, hc]

theorem clear_stops (n : Nat) (hn : 1 ≤ n) (Bl Br r b off len cap : Nat) (R : Int) (a s : Nat → Int) (hR : 1 ≤ R ∧ R ≤ 2097152) (hlen : len ≤ 12) (hok : okEach a s len = true) (hbr : b ≠ r) (hBl : Bl ≠ r) (hBr : Br ≠ r) (w : World) (hr : r < w.heap.size)
    (hB0 : w.cell? ⟨Bl, 0, none⟩ = some (.slice (some ⟨b, off, none⟩) len cap)) (hB1 : w.cell? ⟨Br, 0, none⟩ = some (.int .i64 R))
    (ha : ∀ j, j < len → w.cell? ⟨b, off + j * 2, none⟩ = some (.int .i64 (a j))) (hs : ∀ j, j < len → w.cell? ⟨b, off + j * 2 + 1, none⟩ = some (.int .i64 (s j))) :
    SeqStopsK Fence.wide n Try.prog 85 #[.pointer (some ⟨Bl, 0, none⟩), .pointer (some ⟨Br, 0, none⟩)] (fun x : Int => #[Value.int .i64 x]) (KeepC r) (fun ys => ys = outerL a s R len len) (fun _ => True) 1000 w := fun y J Jx W hW hJ _ hY h0 => by
  have cell : ∀ {p o v}, w.cell? ⟨p, o, none⟩ = some v → W.cell? ⟨p, o, none⟩ = some v := fun {p o v} h => (hW.cell (p := ⟨p, o, none⟩) (cellBlock h)).trans h
  exact clearings1_in n hn y Bl Br r b off len cap R a s hR hlen hok hbr hBl hBr J Jx hY W (Nat.lt_of_lt_of_le hr hW.size) hJ (cell hB0) (cell hB1) (fun j hj => cell (ha j hj)) (fun j hj => cell (hs j hj)) h0

set_option maxRecDepth 100000 in
set_option maxHeartbeats 2000000 in
theorem clearingTime_some (b off cap : Nat) (l : List (Int × Int)) (R : Int) (hR : 1 ≤ R ∧ R ≤ 2097152) (h1 : l.length ≠ 0) (hlen : l.length ≤ 12) (hok : okEach (atL l) (szL l) l.length = true) (w : World)
    (h4 : ∀ j, j < l.length → w.cell? ⟨b, off + j * 2, none⟩ = some (.int .i64 (atL l j))) (h5 : ∀ j, j < l.length → w.cell? ⟨b, off + j * 2 + 1, none⟩ = some (.int .i64 (szL l j))) :
    CallsIn Fence.wide 3 Try.prog 57 #[.slice (some ⟨b, off, none⟩) l.length cap, .int .i64 R] w fun e W' => e = .returned (.int .i64 (clearS l R)) ∧ Below w.heap.size w W' := by
  have hb : b < w.heap.size := cellBlock (h4 0 (by omega))
  have H4 := Lib.hid h4
  have H5 := Lib.hid h5
  have HOK := Lib.hid hok
  clear h4 h5 hok
  refine callsIn_of_wp_marks Try.func57 rfl trivial ?_ rfl
  simp only [Try.ntmps57, List.size_toArray, List.length_cons, List.length_nil, Nat.reduceAdd, Nat.reduceSub, Array.replicate_succ, Array.replicate_zero, List.push_toArray, List.append_toArray, List.nil_append, List.cons_append]
  gi_wp2_with (refine ⟨trivial, ?_⟩; gi_at_call 80; refine (callsIn_wide.2 (clearings_is _ _ _ _ _)).mono ?_; rintro e w' ⟨rfl, rfl⟩)
  have cr : (((w.alloc (Obj.cells #[Value.int IntKind.i64 1125899906842624] 3)).alloc (Obj.cells #[Value.slice (some { block := b, off := off }) l.length cap] 39)).alloc (Obj.cells #[Value.int IntKind.i64 R] 3)).cell? ⟨w.heap.size, 0, none⟩ = some (.int .i64 1125899906842624) := by simp [go_sem]
  have fr : (((w.alloc (Obj.cells #[Value.int IntKind.i64 1125899906842624] 3)).alloc (Obj.cells #[Value.slice (some { block := b, off := off }) l.length cap] 39)).alloc (Obj.cells #[Value.int IntKind.i64 R] 3)).frozen? ⟨w.heap.size, 0, none⟩ = false := by simp [go_sem]
  have cb0 : (((w.alloc (Obj.cells #[Value.int IntKind.i64 1125899906842624] 3)).alloc (Obj.cells #[Value.slice (some { block := b, off := off }) l.length cap] 39)).alloc (Obj.cells #[Value.int IntKind.i64 R] 3)).cell? ⟨w.heap.size + 1, 0, none⟩ = some (.slice (some ⟨b, off, none⟩) l.length cap) := by simp [go_sem]
  have cb1 : (((w.alloc (Obj.cells #[Value.int IntKind.i64 1125899906842624] 3)).alloc (Obj.cells #[Value.slice (some { block := b, off := off }) l.length cap] 39)).alloc (Obj.cells #[Value.int IntKind.i64 R] 3)).cell? ⟨w.heap.size + 1 + 1, 0, none⟩ = some (.int .i64 R) := by simp [go_sem]
  have hB0 : Below w.heap.size w (((w.alloc (Obj.cells #[Value.int IntKind.i64 1125899906842624] 3)).alloc (Obj.cells #[Value.slice (some { block := b, off := off }) l.length cap] 39)).alloc (Obj.cells #[Value.int IntKind.i64 R] 3)) := (((Below.refl _ w).alloc (Nat.le_refl _) _).alloc (by simp) _).alloc (by simp; omega) _
  have hsz : (((w.alloc (Obj.cells #[Value.int IntKind.i64 1125899906842624] 3)).alloc (Obj.cells #[Value.slice (some { block := b, off := off }) l.length cap] 39)).alloc (Obj.cells #[Value.int IntKind.i64 R] 3)).heap.size = w.heap.size + 1 + 1 + 1 := by simp
  obtain ⟨W0, hW0⟩ : ∃ W0, (((w.alloc (Obj.cells #[Value.int IntKind.i64 1125899906842624] 3)).alloc (Obj.cells #[Value.slice (some { block := b, off := off }) l.length cap] 39)).alloc (Obj.cells #[Value.int IntKind.i64 R] 3)) = W0 := ⟨_, rfl⟩
  rw [hW0] at cr fr cb0 cb1 hB0 hsz
  rw [hW0]
  clear hW0
  have cell : ∀ {p o v}, w.cell? ⟨p, o, none⟩ = some v → W0.cell? ⟨p, o, none⟩ = some v := fun {p o v} h => (hB0.cell (p := ⟨p, o, none⟩) (cellBlock h)).trans h
  refine wpIn_rangeFunc_ownG (F := Fence.wide) rfl (by omega) (gf := 85) (lb := #[.pointer (some ⟨w.heap.size + 1, 0, none⟩), .pointer (some ⟨w.heap.size + 1 + 1, 0, none⟩)]) rfl trivial (enters_of Try.func85 (by kernel_rfl) rfl)
    (clear_stops 2 (by omega) (w.heap.size + 1) (w.heap.size + 1 + 1) w.heap.size b off l.length cap R (atL l) (szL l) hR hlen HOK.out (by omega) (by omega) (by omega) W0 (by omega) cb0 cb1 (fun j hj => cell (H4.out j hj)) (fun j hj => cell (H5.out j hj)))
    (fun h k => h.trans k) (fun W l o o' h1 h2 h3 h4 => keepC_b (w := W0) W l o o' h1 h2 h3 h4) (Below.refl _ _) (fun _ => rfl)
    (fun pre W => (W.cell? ⟨w.heap.size, 0, none⟩ = some (.int .i64 (minL 1125899906842624 pre)) ∧ W.frozen? ⟨w.heap.size, 0, none⟩ = false) ∧ Below w.heap.size w W)
    (fun _ _ _ => False)
    (OwnFrom.and (Own.from (fun s A B row hs hg hr => ⟨cell_kept hs.1 hg hr, (frozen_kept hs.1 hg hr).trans hs.2⟩) _) (ownFrom_below (Nat.le_refl _) (by omega)))
    (fun _ _ _ _ _ hs _ _ => hs)
    ⟨⟨by simpa [minL] using cr, fr⟩, hB0⟩
    (fun x => { tmps := #[.slice (some ⟨b, off, none⟩) l.length cap, .int .i64 R, undef, undef, .int .i64 0, .pointer (some ⟨w.heap.size, 0, none⟩), .int .i64 x, .slice (some ⟨b, off, none⟩) l.length cap, .int .i64 R,
      .func (.func 85) #[] #[.pointer (some ⟨w.heap.size + 1, 0, none⟩), .pointer (some ⟨w.heap.size + 1 + 1, 0, none⟩)], .int .i64 x, undef, undef, undef, undef], defers := [] }) ?assign ?body ?done ?stop
  case assign =>
    intro y x W K hK
    gi_wp2
    exact hK
  case body =>
    rintro y pre x W ⟨⟨hc, hf⟩, hB⟩ _
    obtain ⟨c, hcc⟩ : ∃ c, minL 1125899906842624 pre = c := ⟨_, rfl⟩
    rw [hcc] at hc
    obtain ⟨m, hm⟩ : ∃ m, min c x = m := ⟨_, rfl⟩
    have HM : Hid (minL 1125899906842624 (pre ++ [x]) = m) := Lib.hid (by rw [minL_snoc, hcc]; exact hm)
    clear hcc
    gi_wp2
    exact ⟨(KeepsOthers.setCell _ _ _).from _, keepC_set, ⟨by rw [HM.out]; exact World.cell?_setCell_same' _ _ _ (by rw [hc]; rfl), by rw [World.frozen?_setCell]; exact hf⟩, hB.setCell (p := ⟨w.heap.size, 0, none⟩) (Nat.le_refl _) _⟩
  case done =>
    rintro D ys W hD rfl ⟨⟨hc, hf⟩, hB⟩ hK
    have hc' : W.cell? ⟨w.heap.size, 0, none⟩ = some (.int .i64 (clearS l R)) := hc
    clear hc
    gi_wp2
    refine ⟨by simp, .inl ⟨_, _, rfl, run_takeDeferred hK, ?_⟩⟩
    exact ⟨_, results_tmp rfl _ _ _, rfl, hB.trans (belowK_b (w := w) (Nat.le_refl _) _ D _ _ (by omega) hK rfl rfl)⟩
  case stop =>
    rintro D c pre W _ _ h _
    exact h.elim

theorem clearingTime_is (v : Value) (l : List (Int × Int)) (R q : Int) (w : World) (hR : 1 ≤ R ∧ R ≤ 2097152) (hb : bucketsE l = 0) (h : Hid (RowAt w v l)) (H : Hid (clearS l R = q)) :
    Calls Try.prog 57 #[v, .int .i64 R] w (Res (.int .i64 q) w) := by
  have hb' := bucketsE_row hb
  rcases h.out with ⟨_, h2⟩ | ⟨b, off, n, cap, rfl, rfl, h3, h4, h5⟩
  · rw [h2] at hb'; exact absurd rfl hb'.1
  · exact callsIn_wide.1 ((clearingTime_some b off cap l R hR hb'.1 hb'.2.1 hb'.2.2 w h4 h5).mono fun e w' ⟨he, hw⟩ => ⟨by rw [he, H.out], keepBelow hw⟩)

end Go.Proofs.Ytmamadgikjkjdaa
