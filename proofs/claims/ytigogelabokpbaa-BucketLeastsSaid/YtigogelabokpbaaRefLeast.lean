/- What Least of the reference returns, at every rate and trace. -/
import Derived.Test.YtigogelabokpbaaSearch
import Derived.BigQuiet
namespace Go.Proofs.Ytigogelabokpbaa
open Go Go.RowKit

theorem rightTrace_is (v : Value) (l : List (Int × Int)) (b : Bool) (w : World) (h : Hid (RowAt w v l)) (H : Hid (okT l = b)) : Calls Try.prog 35 #[v] w (Res (.bool b) w) := by
  have := rightTrace_any v l w h.out
  rwa [H.out] at this

/-- The greatest demand of the intervals that have been looked at: those that begin before i, and those that begin at i and end before j. -/
def Most (R : Int) (a s : Nat → Int) (n i j : Nat) (m : Int) : Prop :=
  1 ≤ m ∧ (∀ i' j', i' < i → i' ≤ j' → j' < n → need R a s i' j' ≤ m) ∧ (∀ j', i ≤ j' → j' < j → need R a s i j' ≤ m) ∧ (m = 1 ∨ ∃ i' j', i' ≤ j' ∧ j' < n ∧ need R a s i' j' = m)
theorem Most.done {R : Int} {a s : Nat → Int} {n j : Nat} {m : Int} (h : Most R a s n n j m) : leastS R a s n = m := by
  obtain ⟨h1, h2, _, h4⟩ := h
  have e1 : leastS R a s n ≤ m := leastS_le.2 ⟨h1, fun j hj i hi => h2 i j (by omega) hi hj⟩
  have e2 := leastS_le.1 (Int.le_refl (leastS R a s n))
  rcases h4 with rfl | ⟨i', j', h5, h6, h7⟩
  · omega
  · have := e2.2 j' h6 i' h5
    omega
theorem Most.line {R : Int} {a s : Nat → Int} {n i : Nat} {m : Int} (h : Most R a s n i n m) : Most R a s n (i + 1) (i + 1) m := by
  obtain ⟨h1, h2, h3, h4⟩ := h
  refine ⟨h1, fun i' j' a1 a2 a3 => ?_, fun j' a1 a2 => by omega, h4⟩
  rcases Nat.lt_or_ge i' i with h | h
  · exact h2 i' j' h a2 a3
  · obtain rfl : i' = i := by omega
    exact h3 j' a2 a3
theorem Most.next {R : Int} {a s : Nat → Int} {n i j : Nat} {m x : Int} (h : Most R a s n i j m) (hi : i ≤ j) (hj : j < n) (hx : max m (need R a s i j) = x) : Most R a s n i (j + 1) x := by
  obtain ⟨h1, h2, h3, h4⟩ := h
  refine ⟨by omega, fun i' j' a1 a2 a3 => by have := h2 i' j' a1 a2 a3; omega, fun j' a1 a2 => ?_, ?_⟩
  · rcases Nat.lt_or_ge j' j with h | h
    · have := h3 j' a1 h; omega
    · obtain rfl : j' = j := by omega
      omega
  · by_cases e : x = m
    · rw [e]; exact h4
    · refine Or.inr ⟨i, j, hi, hj, ?_⟩
      clear h1 h2 h3 h4
      omega

set_option maxHeartbeats 2000000 in
theorem refLeast_some (b off n cap : Nat) (l : List (Int × Int)) (a s : Nat → Int) (R : Int) (w : World) (hR : 1 ≤ R ∧ R ≤ 2097152) (hn : n ≤ 200) (hT : Hid (okT l = true)) (hRow : Hid (RowAt w (.slice (some ⟨b, off, none⟩) n cap) l)) (hok : okSteps a s n = true) (ha : ∀ j, j < n → w.cell? ⟨b, off + j * 2, none⟩ = some (.int .i64 (a j))) (hs : ∀ j, j < n → w.cell? ⟨b, off + j * 2 + 1, none⟩ = some (.int .i64 (s j)))
    (V : Int × Int) (HV : Hid ((if leastS R a s n ≤ 1048576 then (leastS R a s n, 0) else (0, 6)) = V)) :
    Calls Try.prog 28 #[.int .i64 R, .slice (some ⟨b, off, none⟩) n cap] w (Two V w) := by
  have HA := Lib.hid ha
  have HS := Lib.hid hs
  have HO := Lib.hid hok
  clear ha hs hok
  have r1 : ¬ R < 1 := by omega
  have r2 : ¬ 2097152 < R := by omega
  go_enter Try.func28, Try.ntmps28
  go_wp2_with (go_at_call 35; ((with_reducible refine (rightTrace_is _ l _ _ hRow hT).mono ?_); rintro e w1 ⟨rfl, k1⟩))
  go_loopw [6, 7] (fun s6 s7 wr => ∃ (i q : Nat) (m : Int), i ≤ n ∧ s7 = .int .i64 i ∧ s6 = .int .i64 m ∧ wr = w1.drewN q ∧ (1 ≤ m ∧ m ≤ 209715200) ∧ Hid (Most R a s n i i m)) (fun _ i _ => n - (intOf i).toNat)
  case atStart => exact ⟨0, 0, 1, Nat.zero_le _, rfl, rfl, rfl, by omega, Lib.hid ⟨by omega, fun i' j' h => absurd h (Nat.not_lt_zero _), fun j' h1 h2 => by omega, Or.inl rfl⟩⟩
  case round =>
    obtain ⟨i, q, m, hi, rfl, rfl, rfl, hm, HM⟩ := hrel
    by_cases hlt : i < n
    · go_wp2
      go_loopw [6, 8, 9] (fun s6 s8 s9 wr => ∃ (j q : Nat) (S m : Int), i ≤ j ∧ j ≤ n ∧ s9 = .int .i64 j ∧ s8 = .int .i64 S ∧ s6 = .int .i64 m ∧ wr = w1.drewN q ∧ (1 ≤ m ∧ m ≤ 209715200) ∧ Hid (psum s j - psum s i = S ∧ Most R a s n i j m)) (fun _ _ j _ => n - (intOf j).toNat)
      case atStart => exact ⟨i, q, 0, m, Nat.le_refl _, by omega, rfl, rfl, rfl, rfl, hm, Lib.hid ⟨Int.sub_self _, HM.out⟩⟩
      case round =>
        obtain ⟨j, q2, S, m2, hij, hj, rfl, rfl, rfl, rfl, hm2, HJ⟩ := hrel
        by_cases hlj : j < n
        · have c0 := k1.some (HA.out i hlt)
          have c2 := k1.some (HA.out j hlj)
          have c3 := k1.some (HS.out j hlj)
          have bi := okSteps_bd HO.out i hlt
          have bj := okSteps_bd HO.out j hlj
          have bm := okSteps_mono HO.out j hlj i hij
          have p1 := psum_bd HO.out j (by omega)
          have p2 := psum_bd HO.out i (by omega)
          have p3 := psum_bd HO.out (j + 1) (by omega)
          have eg : need R a s i j = psum s j - psum s i + s j - R * (a j - a i) / 1048576 := by
            unfold need
            rw [show psum s (j + 1) = psum s j + s j from rfl]
            omega
          rw [show psum s (j + 1) = psum s j + s j from rfl] at p3
          rw [HJ.out.1] at eg
          have eS := HJ.out.1
          obtain ⟨x, hx⟩ : ∃ x, a i = x := ⟨_, rfl⟩
          obtain ⟨z, hz⟩ : ∃ z, a j = z := ⟨_, rfl⟩
          obtain ⟨y, hy⟩ : ∃ y, s j = y := ⟨_, rfl⟩
          rw [hx] at c0 bi bm eg
          rw [hz] at c2 bj bm eg
          rw [hy] at c3 bj eg p3
          have HY := Lib.hid hy
          have bS : -209715200 ≤ S ∧ S ≤ 209715200 := by omega
          obtain ⟨T, hT⟩ : ∃ T, S + y = T := ⟨_, rfl⟩
          rw [hT] at eg
          have bT : -210763776 ≤ T ∧ T ≤ 209715200 := by omega
          obtain ⟨D3, hD3⟩ : ∃ D3, z - x = D3 := ⟨_, rfl⟩
          rw [hD3] at eg
          have bD3 : 0 ≤ D3 ∧ D3 ≤ 1099511627776 := by omega
          have bG := gain_bd hR bD3
          obtain ⟨G, hG⟩ : ∃ G, R * D3 = G := ⟨_, rfl⟩
          rw [hG] at eg bG
          obtain ⟨Q, hQ⟩ : ∃ Q, G / 1048576 = Q := ⟨_, rfl⟩
          rw [hQ] at eg
          have bQ : 0 ≤ Q ∧ Q ≤ 2199023255552 := by omega
          obtain ⟨N, hN⟩ : ∃ N, T - Q = N := ⟨_, rfl⟩
          rw [hN] at eg
          obtain ⟨x2, hx2⟩ : ∃ x2, max m2 N = x2 := ⟨_, rfl⟩
          have b2 : 1 ≤ x2 ∧ x2 ≤ 209715200 := by omega
          have w3 : IntKind.i64.wrap (z - x) = D3 := by rw [hD3]; exact IntWalk.i64_in _ (by omega)
          have w4 : IntKind.i64.wrap (R * D3) = G := by rw [hG]; exact IntWalk.i64_in _ (by omega)
          have w5 : IntKind.i64.wrap (G.tdiv 1048576) = Q := by rw [Int.tdiv_eq_ediv_of_nonneg bG.1, hQ]; exact IntWalk.i64_in _ (by omega)
          have w6 : IntKind.i64.wrap (T - Q) = N := by rw [hN]; exact IntWalk.i64_in _ (by omega)
          have HX : Hid (max m2 (need R a s i j) = x2) := Lib.hid (by rw [eg]; exact hx2)
          have HT := Lib.hid hT
          clear hx hz hy eg eS p1 p2 p3 bi bj bm hQ
          have l1 : i < n := hlt
          go_wp2
          go_region
          all_goals go_wp2
          all_goals go_roundw
          case rel => exact ⟨j + 1, _, T, x2, by omega, by omega, rfl, rfl, rfl, rfl, b2, Lib.hid ⟨by rw [← HT.out, ← HJ.out.1, ← HY.out, show psum s (j + 1) = psum s j + s j from rfl]; omega, HJ.out.2.next hij hlj HX.out⟩⟩
          case measure => simp [intOf]; omega
        · obtain rfl : j = n := by omega
          go_wp2
          go_roundw
          case rel => exact ⟨i + 1, _, m2, by omega, rfl, rfl, rfl, hm2, Lib.hid HJ.out.2.line⟩
          case measure => simp [intOf]; omega
    · obtain rfl : i = n := by omega
      have hm' : Hid (leastS R a s i = m) := Lib.hid HM.out.done
      by_cases hle : m ≤ 1048576
      · have HE : Hid (V = (m, 0)) := Lib.hid (by rw [← HV.out, hm'.out, if_pos hle])
        go_wp2
        go_ret2
        exact ⟨by rw [HE.out]; rfl, k1.drewN _⟩
      · have HE : Hid (V = (0, 6)) := Lib.hid (by rw [← HV.out, hm'.out, if_neg hle])
        have hle' : 1048576 < m := by omega
        go_wp2
        go_ret2
        exact ⟨by rw [HE.out]; rfl, k1.drewN _⟩

theorem refLeast_nil (R : Int) (w : World) (hR : 1 ≤ R ∧ R ≤ 2097152) : Calls Try.prog 28 #[.int .i64 R, .slice none 0 0] w (Two (1, 0) w) := by
  have r1 : ¬ R < 1 := by omega
  have r2 : ¬ 2097152 < R := by omega
  have HT : Hid (okT [] = true) := Lib.hid rfl
  have HR : ∀ w', Hid (RowAt w' (.slice none 0 0) []) := fun _ => Lib.hid (Or.inl ⟨rfl, rfl⟩)
  go_enter Try.func28, Try.ntmps28
  go_wp2_with (go_at_call 35; ((with_reducible refine (rightTrace_is _ [] _ _ (HR _) HT).mono ?_); rintro e w1 ⟨rfl, k1⟩))
  go_loopw [6, 7] (fun s6 s7 wr => s6 = .int .i64 1 ∧ s7 = .int .i64 0 ∧ Hid (Keep w wr)) (fun _ _ _ => 0)
  case atStart => exact ⟨rfl, rfl, Lib.hid k1⟩
  case round =>
    obtain ⟨rfl, rfl, HK⟩ := hrel
    go_wp2
    go_ret2
    exact ⟨rfl, HK.out⟩
theorem refLeast_arg (R : Int) (v : Value) (w : World) (hR : ¬ (1 ≤ R ∧ R ≤ 2097152)) : Calls Try.prog 28 #[.int .i64 R, v] w (Two (0, 2) w) := by
  by_cases h1 : 1 ≤ R
  · have r1 : ¬ R < 1 := by omega
    have r2 : 2097152 < R := by omega
    go_enter Try.func28, Try.ntmps28
    go_wp2
    go_ret2
    exact ⟨rfl, Keep.refl _⟩
  · have r1 : R < 1 := by omega
    go_enter Try.func28, Try.ntmps28
    go_wp2
    go_ret2
    exact ⟨rfl, Keep.refl _⟩
theorem refLeast_trace (R : Int) (v : Value) (l : List (Int × Int)) (w : World) (hR : 1 ≤ R ∧ R ≤ 2097152) (hT : Hid (okT l = false)) (h : Hid (RowAt w v l)) : Calls Try.prog 28 #[.int .i64 R, v] w (Two (0, 131) w) := by
  have r1 : ¬ R < 1 := by omega
  have r2 : ¬ 2097152 < R := by omega
  go_enter Try.func28, Try.ntmps28
  go_wp2_with (go_at_call 35; ((with_reducible refine (rightTrace_is _ l _ _ h hT).mono ?_); rintro e w1 ⟨rfl, k1⟩))
  go_ret2
  exact ⟨rfl, k1⟩

theorem refLeast_any (R : Int) (v : Value) (l : List (Int × Int)) (w : World) (h : RowAt w v l) : Calls Try.prog 28 #[.int .i64 R, v] w (Two (leastR R l) w) := by
  unfold leastR
  by_cases hr : 1 ≤ R ∧ R ≤ 2097152
  · rw [if_pos hr]
    cases ht : okT l with
    | false => rw [if_neg (by simp)]; exact refLeast_trace R v l w hr (Lib.hid ht) (Lib.hid h)
    | true =>
      rw [if_pos rfl]
      have h' := h
      rcases h with ⟨rfl, rfl⟩ | ⟨b, off, n, cap, rfl, h2, h3, h4, h5⟩
      · exact refLeast_nil R w hr
      · subst h2
        exact refLeast_some b off _ cap l _ _ R w hr (okT_iff.1 ht).1 (Lib.hid ht) (Lib.hid h') (okT_iff.1 ht).2 h4 h5 _ (Lib.hid rfl)
  · rw [if_neg hr]; exact refLeast_arg R v w hr

end Go.Proofs.Ytigogelabokpbaa
