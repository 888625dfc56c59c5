/- What both, Conforms and First of the reference return, at every bucket and trace. -/
import Derived.Test.YtaknbjjcgcmdlaaRefFits
namespace Go.Proofs.Ytaknbjjcgcmdlaa
open Go Go.RowKit

def errR (B R : Int) (l : List (Int × Int)) : Int := if okBk B R then (if okT l then 0 else 131) else 130
theorem firstR_err (B R : Int) (l : List (Int × Int)) : (firstR B R l).2 = errR B R l := by
  unfold firstR errR
  split
  · split <;> rfl
  · rfl
theorem fits_is (B R : Int) (b : Bool) (v : Value) (l : List (Int × Int)) (w : World) (hBk : Hid (okBk B R = true)) (hok : Hid (okT l = true)) (h : Hid (RowAt w v l)) (H : Hid (fitsL B R l = b)) :
    Calls Try.prog 14 #[.agg #[.int .i64 B, .int .i64 R], v] w (Res (.bool b) w) := by
  have := fits_any B R v l w hBk.out hok.out h.out
  rwa [H.out] at this

theorem conformsR_yes {B R : Int} {l : List (Int × Int)} (hb : okBk B R = true) (ht : okT l = true) : conformsR B R l = (fitsL B R l, 0) := by
  unfold conformsR firstR
  rw [if_pos hb, if_pos ht]
  show (decide (firstL B R l < 0), 0) = _
  unfold firstL fitsL
  rw [first_neg (atL_zero ht) (by have := okBk_iff.1 hb; omega)]
theorem conformsR_no {B R : Int} {l : List (Int × Int)} (h : ¬ (okBk B R = true ∧ okT l = true)) : conformsR B R l = (false, errR B R l) := by
  unfold conformsR
  rw [firstR_err]
  congr 1
  unfold firstR
  split
  · rename_i hb
    rw [if_neg (fun ht => h ⟨hb, ht⟩)]; rfl
  · rfl

theorem take_at {l : List (Int × Int)} {m k : Nat} (h : k < m) : atL (l.take m) k = atL l k ∧ szL (l.take m) k = szL l k := by
  unfold atL szL
  simp [List.getD, h]
theorem RowAt.take {w : World} {b off n cap m : Nat} {l : List (Int × Int)} (hl : l.length = n) (hc : n ≤ cap ∧ cap ≤ 9223372036854775807) (hm : m ≤ n) (h4 : ∀ j, j < n → w.cell? ⟨b, off + j * 2, none⟩ = some (.int .i64 (atL l j))) (h5 : ∀ j, j < n → w.cell? ⟨b, off + j * 2 + 1, none⟩ = some (.int .i64 (szL l j))) :
    RowAt w (.slice (some ⟨b, off, none⟩) m cap) (l.take m) :=
  Or.inr ⟨b, off, m, cap, rfl, by rw [List.length_take]; omega, by omega, fun j hj => by rw [(take_at hj).1]; exact h4 j (by omega), fun j hj => by rw [(take_at hj).2]; exact h5 j (by omega)⟩
theorem okT_take {l : List (Int × Int)} (h : okT l = true) (m : Nat) : okT (l.take m) = true := by
  obtain ⟨h1, h2⟩ := okT_iff.1 h
  refine okT_iff.2 ⟨by rw [List.length_take]; omega, okSteps_iff.2 fun k hk => ?_⟩
  rw [List.length_take] at hk
  have := okSteps_iff.1 h2 k (by omega)
  unfold okStep at this ⊢
  rw [decide_eq_true_eq] at this ⊢
  rw [(take_at (by omega)).1, (take_at (by omega)).2]
  cases k with
  | zero => exact this
  | succ k =>
    have e : prevAt (atL (l.take m)) (k + 1) = prevAt (atL l) (k + 1) := (take_at (by omega)).1
    rw [e]
    exact this
theorem fitsL_take {B R : Int} {l : List (Int × Int)} {m : Nat} (hm : m ≤ l.length) : fitsL B R (l.take m) = fitsB B R (atL l) (szL l) m := by
  unfold fitsL
  rw [List.length_take, Nat.min_eq_left hm]
  exact fitsB_congr (fun k hk => (take_at hk).1) (fun k hk => (take_at hk).2)

set_option maxRecDepth 100000 in
theorem slice_to (b off n cap k : Nat) (h : k + 1 ≤ cap) (w : World) : (Instr.slice 32 (.slice (some ⟨b, off, none⟩) n cap) none (some (.int .i64 ((k : Int) + 1))) none).run Try.prog w = .ok (.slice (some ⟨b, off, none⟩) (k + 1) cap) w := by
  rw [run_slice_h (ht := Try.underlying32) (h0 := by omega) (h2 := by omega)]
  have hc : ¬ cap = 0 := by omega
  have ht : ((k : Int) + 1).toNat = k + 1 := by omega
  simp [go_sem, hc, ht, Addr.add]

end Go.Proofs.Ytaknbjjcgcmdlaa
