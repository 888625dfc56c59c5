/- What CheckTrace of the package bucket returns, and RightTrace and CheckTrace of the reference, at every trace of at most 200 arrivals and at every longer one. -/
import Derived.Test.YtaknbjjcgcmdlaaChecks
namespace Go.Proofs.Ytaknbjjcgcmdlaa
open Go Go.RowKit

/-- A slice of arrivals that reads as the list l. -/
def RowAt (w : World) (v : Value) (l : List (Int × Int)) : Prop :=
  (v = .slice none 0 0 ∧ l = []) ∨ ∃ b off n cap, v = .slice (some ⟨b, off, none⟩) n cap ∧ l.length = n ∧ (n ≤ cap ∧ cap ≤ 9223372036854775807) ∧
    (∀ j, j < n → w.cell? ⟨b, off + j * 2, none⟩ = some (.int .i64 (atL l j))) ∧ (∀ j, j < n → w.cell? ⟨b, off + j * 2 + 1, none⟩ = some (.int .i64 (szL l j)))
theorem RowAt.keep {w w' : World} {v : Value} {l : List (Int × Int)} (h : RowAt w v l) (k : Keep w w') : RowAt w' v l := by
  rcases h with h | ⟨b, off, n, cap, h1, h2, h3, h4, h5⟩
  · exact Or.inl h
  · exact Or.inr ⟨b, off, n, cap, h1, h2, h3, fun j hj => k.some (h4 j hj), fun j hj => k.some (h5 j hj)⟩

def traceE (l : List (Int × Int)) : Int := if okT l then 0 else 131
theorem okStep_split (p x y : Int) : decide (p ≤ x ∧ x ≤ 1099511627776 ∧ 1 ≤ y ∧ y ≤ 1048576) = ((decide (p ≤ x) && decide (x ≤ 1099511627776)) && (decide (1 ≤ y) && decide (y ≤ 1048576))) := by
  rw [Bool.eq_iff_iff]; simp; omega

theorem checkTrace_nil (w : World) : Calls Try.prog 20 #[.slice none 0 0] w (Res (.int .i64 0) w) := by
  go_enter Try.func20, Try.ntmps20
  go_wp2
  go_loopw [3, 11] (fun s3 s11 wr => s3 = .int .i64 0 ∧ s11 = .int .i64 0 ∧ wr = w) (fun _ _ _ => 0)
  case atStart => exact ⟨rfl, rfl, rfl⟩
  case round =>
    obtain ⟨rfl, rfl, rfl⟩ := hrel
    go_wp2
    go_ret
    exact ⟨rfl, Keep.refl _⟩
theorem checkTrace_long (b off n cap : Nat) (w : World) (hn : 200 < n) (hm : n ≤ 9223372036854775807) : Calls Try.prog 20 #[.slice (some ⟨b, off, none⟩) n cap] w (Res (.int .i64 131) w) := by
  go_enter Try.func20, Try.ntmps20
  go_wp2
  go_ret
  exact ⟨rfl, Keep.refl _⟩

set_option maxHeartbeats 1000000 in
theorem checkTrace_some (b off n cap : Nat) (a s : Nat → Int) (V : Int) (w : World) (hn : n ≤ 200) (ha : ∀ j, j < n → w.cell? ⟨b, off + j * 2, none⟩ = some (.int .i64 (a j))) (hs : ∀ j, j < n → w.cell? ⟨b, off + j * 2 + 1, none⟩ = some (.int .i64 (s j)))
    (HV : Hid ((if okSteps a s n then 0 else 131) = V)) :
    Calls Try.prog 20 #[.slice (some ⟨b, off, none⟩) n cap] w (Res (.int .i64 V) w) := by
  have HA := Lib.hid ha
  have HS := Lib.hid hs
  clear ha hs
  go_enter Try.func20, Try.ntmps20
  go_wp2
  go_loopw [3, 11] (fun s3 s11 wr => ∃ (k : Nat) (p : Int), k ≤ n ∧ s3 = .int .i64 p ∧ s11 = .int .i64 k ∧ Hid (prevAt a k = p ∧ okSteps a s k = true ∧ Keep w wr)) (fun _ i _ => n - (intOf i).toNat)
  case atStart => exact ⟨0, 0, Nat.zero_le _, rfl, rfl, Lib.hid ⟨rfl, rfl, Keep.refl _⟩⟩
  case round =>
    obtain ⟨k, p, hk, rfl, rfl, HK⟩ := hrel
    by_cases hlt : k < n
    · have c0 := HK.out.2.2.some (HA.out k hlt)
      have c1 := HK.out.2.2.some (HS.out k hlt)
      obtain ⟨x, hx⟩ : ∃ x, a k = x := ⟨_, rfl⟩
      obtain ⟨y, hy⟩ : ∃ y, s k = y := ⟨_, rfl⟩
      rw [hx] at c0
      rw [hy] at c1
      have eo : okStep a s k = ((decide (p ≤ x) && decide (x ≤ 1099511627776)) && (decide (1 ≤ y) && decide (y ≤ 1048576))) := by
        rw [← okStep_split]; unfold okStep; rw [hx, hy, HK.out.1]
      have HX := Lib.hid hx
      clear hx hy
      cases h1 : (decide (p ≤ x) && decide (x ≤ 1099511627776)) with
      | false =>
        rw [h1, Bool.false_and] at eo
        have HO := Lib.hid eo
        have H1 := Lib.hid h1
        clear h1 eo
        go_wp2_with (go_at_call 18; ((with_reducible refine (between_is p x 1099511627776 _ _ H1).mono ?_); rintro e w' ⟨rfl, rfl⟩))
        go_ret
        exact ⟨by rw [← HV.out, okSteps_no hlt HO.out]; rfl, HK.out.2.2.trans (keepOf (by go_grown))⟩
      | true =>
        rw [h1, Bool.true_and] at eo
        cases h2 : (decide (1 ≤ y) && decide (y ≤ 1048576)) with
        | false =>
          rw [h2] at eo
          have HO := Lib.hid eo
          have H1 := Lib.hid h1
          have H2 := Lib.hid h2
          clear h1 h2 eo
          go_wp2_with (first | (go_at_call 18; ((with_reducible refine (between_is p x 1099511627776 _ _ H1).mono ?_); rintro e w' ⟨rfl, rfl⟩)) | (go_at_call 18; ((with_reducible refine (between_is 1 y 1048576 _ _ H2).mono ?_); rintro e w' ⟨rfl, rfl⟩)))
          go_ret
          exact ⟨by rw [← HV.out, okSteps_no hlt HO.out]; rfl, HK.out.2.2.trans (keepOf (by go_grown))⟩
        | true =>
          rw [h2] at eo
          have HO := Lib.hid eo
          have H1 := Lib.hid h1
          have H2 := Lib.hid h2
          clear h1 h2 eo
          go_wp2_with (first | (go_at_call 18; ((with_reducible refine (between_is p x 1099511627776 _ _ H1).mono ?_); rintro e w' ⟨rfl, rfl⟩)) | (go_at_call 18; ((with_reducible refine (between_is 1 y 1048576 _ _ H2).mono ?_); rintro e w' ⟨rfl, rfl⟩)))
          go_roundw
          case rel => exact ⟨k + 1, x, by omega, rfl, rfl, Lib.hid ⟨HX.out, by rw [okSteps_succ, HK.out.2.1, HO.out]; rfl, HK.out.2.2.trans (keepOf (by go_grown))⟩⟩
          case measure => simp [intOf]; omega
    · obtain rfl : k = n := by omega
      go_wp2
      go_ret
      exact ⟨by rw [← HV.out, HK.out.2.1]; rfl, HK.out.2.2⟩

theorem checkTrace_any (v : Value) (l : List (Int × Int)) (w : World) (h : RowAt w v l) : Calls Try.prog 20 #[v] w (Res (.int .i64 (traceE l)) w) := by
  rcases h with ⟨rfl, rfl⟩ | ⟨b, off, n, cap, rfl, h2, h3, h4, h5⟩
  · exact checkTrace_nil w
  · by_cases hn : n ≤ 200
    · exact checkTrace_some b off n cap _ _ _ w hn h4 h5 (Lib.hid (by unfold traceE okT; rw [h2, decide_eq_true hn, Bool.true_and]))
    · have e : traceE l = 131 := by unfold traceE okT; rw [h2, decide_eq_false hn]; rfl
      rw [e]
      exact checkTrace_long b off n cap w (by omega) (by omega)

end Go.Proofs.Ytaknbjjcgcmdlaa
