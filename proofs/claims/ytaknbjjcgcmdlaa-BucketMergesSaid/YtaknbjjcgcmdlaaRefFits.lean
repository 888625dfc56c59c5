/- What Fits, both, Conforms and First of the reference return, at every valid bucket and trace; both, Conforms and First at every bucket and trace. -/
import Derived.Test.YtaknbjjcgcmdlaaCalls
import Derived.BigQuiet
import Derived.Deep.RegionWith
namespace Go.Proofs.Ytaknbjjcgcmdlaa
open Go Go.RowKit

set_option maxHeartbeats 2000000 in
theorem fits_some (b off n cap : Nat) (a s : Nat → Int) (B R : Int) (w : World) (hn : n ≤ 200) (hBk : okBk B R = true) (hok : okSteps a s n = true) (ha : ∀ j, j < n → w.cell? ⟨b, off + j * 2, none⟩ = some (.int .i64 (a j))) (hs : ∀ j, j < n → w.cell? ⟨b, off + j * 2 + 1, none⟩ = some (.int .i64 (s j)))
    (V : Bool) (HV : Hid (fitsB B R a s n = V)) :
    Calls Try.prog 14 #[.agg #[.int .i64 B, .int .i64 R], .slice (some ⟨b, off, none⟩) n cap] w (Res (.bool V) w) := by
  have HA := Lib.hid ha
  have HS := Lib.hid hs
  have HO := Lib.hid hok
  have bk := okBk_iff.1 hBk
  clear ha hs hok hBk
  go_enter Try.func14, Try.ntmps14
  go_wp2
  have wb0 : (w.alloc (Obj.cells #[Value.int IntKind.i64 B, Value.int IntKind.i64 R] 30)).cell? ⟨w.heap.size, 0, none⟩ = some (.int .i64 B) := by simp [go_sem]
  have wb1 : (w.alloc (Obj.cells #[Value.int IntKind.i64 B, Value.int IntKind.i64 R] 30)).cell? ⟨w.heap.size, 1, none⟩ = some (.int .i64 R) := by simp [go_sem]
  have K0 := Lib.hid ((Keep.refl w).alloc (Obj.cells #[Value.int IntKind.i64 B, Value.int IntKind.i64 R] 30))
  generalize w.alloc (Obj.cells #[Value.int IntKind.i64 B, Value.int IntKind.i64 R] 30) = W1 at *
  go_loopw [5] (fun s5 wr => ∃ (i q : Nat), i ≤ n ∧ s5 = .int .i64 i ∧ wr = W1.drewN q ∧ Hid (∀ i' j', i' < i → i' ≤ j' → j' < n → gapB B R a s i' j' = true)) (fun i _ => n - (intOf i).toNat)
  case atStart => exact ⟨0, 0, Nat.zero_le _, rfl, rfl, Lib.hid (fun i' j' h => absurd h (Nat.not_lt_zero _))⟩
  case round =>
    obtain ⟨i, q, hi, rfl, rfl, HI⟩ := hrel
    by_cases hlt : i < n
    · go_wp2
      go_loopw [6, 7] (fun s6 s7 wr => ∃ (j q : Nat) (S : Int), i ≤ j ∧ j ≤ n ∧ s7 = .int .i64 j ∧ s6 = .int .i64 S ∧ wr = W1.drewN q ∧ Hid (psum s j - psum s i = S ∧ ∀ j', i ≤ j' → j' < j → gapB B R a s i j' = true)) (fun _ j _ => n - (intOf j).toNat)
      case atStart => exact ⟨i, q, 0, Nat.le_refl _, by omega, rfl, rfl, rfl, Lib.hid ⟨Int.sub_self _, fun j' h1 h2 => by omega⟩⟩
      case round =>
        obtain ⟨j, q2, S, hij, hj, rfl, rfl, rfl, HJ⟩ := hrel
        by_cases hlj : j < n
        · have c0 := K0.out.some (HA.out i hlt)
          have c2 := K0.out.some (HA.out j hlj)
          have c3 := K0.out.some (HS.out j hlj)
          have bi := okSteps_bd HO.out i hlt
          have bj := okSteps_bd HO.out j hlj
          have bm := okSteps_mono HO.out j hlj i hij
          have p1 := psum_bd HO.out j (by omega)
          have p2 := psum_bd HO.out i (by omega)
          have eg : gapB B R a s i j = decide ((psum s j - psum s i + s j - B) * 1048576 ≤ R * (a j - a i)) := by
            unfold gapB
            rw [show psum s (j + 1) = psum s j + s j from rfl, show psum s j + s j - psum s i - B = psum s j - psum s i + s j - B by omega]
          rw [HJ.out.1] at eg
          have eS := HJ.out.1
          obtain ⟨x, hx⟩ : ∃ x, a i = x := ⟨_, rfl⟩
          obtain ⟨z, hz⟩ : ∃ z, a j = z := ⟨_, rfl⟩
          obtain ⟨y, hy⟩ : ∃ y, s j = y := ⟨_, rfl⟩
          rw [hx] at c0 bi bm eg
          rw [hz] at c2 bj bm eg
          rw [hy] at c3 bj eg
          have HY := Lib.hid hy
          have bS : -209715200 ≤ S ∧ S ≤ 209715200 := by omega
          obtain ⟨T, hT⟩ : ∃ T, S + y = T := ⟨_, rfl⟩
          rw [hT] at eg
          have bT : -210763776 ≤ T ∧ T ≤ 210763776 := by omega
          obtain ⟨D1, hD1⟩ : ∃ D1, T - B = D1 := ⟨_, rfl⟩
          rw [hD1] at eg
          have bD1 : -211812352 ≤ D1 ∧ D1 ≤ 211812352 := by omega
          obtain ⟨D2, hD2⟩ : ∃ D2, D1 * 1048576 = D2 := ⟨_, rfl⟩
          rw [hD2] at eg
          obtain ⟨D3, hD3⟩ : ∃ D3, z - x = D3 := ⟨_, rfl⟩
          rw [hD3] at eg
          have bD3 : 0 ≤ D3 ∧ D3 ≤ 1099511627776 := by omega
          have bG := gain_bd bk.2.2 bD3
          obtain ⟨G, hG⟩ : ∃ G, R * D3 = G := ⟨_, rfl⟩
          rw [hG] at eg bG
          have w1 : IntKind.i64.wrap (T - B) = D1 := by rw [hD1]; exact IntWalk.i64_in _ (by omega)
          have w2 : IntKind.i64.wrap (D1 * 1048576) = D2 := by rw [hD2]; exact IntWalk.i64_in _ (by omega)
          have w3 : IntKind.i64.wrap (z - x) = D3 := by rw [hD3]; exact IntWalk.i64_in _ (by omega)
          have w4 : IntKind.i64.wrap (R * D3) = G := by rw [hG]; exact IntWalk.i64_in _ (by omega)
          have HE := Lib.hid eg
          have HT := Lib.hid hT
          clear hx hz hy eg eS p1 p2 bi bj bm
          have l1 : i < n := hlt
          by_cases hgt : D2 ≤ G
          · have d1 : decide (G < D2) = false := by simp; omega
            have HG : Hid (gapB B R a s i j = true) := Lib.hid (by rw [HE.out]; simp [hgt])
            go_wp2
            go_quiet (fail)
            go_wp2
            go_roundw
            case rel => exact ⟨j + 1, _, T, by omega, by omega, rfl, rfl, rfl, Lib.hid ⟨by rw [← HT.out, ← HJ.out.1, ← HY.out, show psum s (j + 1) = psum s j + s j from rfl]; omega, fun j' h1 h2 => by
              rcases Nat.lt_or_ge j' j with h | h
              · exact HJ.out.2 j' h1 h
              · obtain rfl : j' = j := by omega
                exact HG.out⟩⟩
            case measure => simp [intOf]; omega
          · have d1 : decide (G < D2) = true := by simp; omega
            have HG : Hid (gapB B R a s i j = false) := Lib.hid (by rw [HE.out]; simp; omega)
            go_wp2
            go_quiet (fail)
            go_wp2
            go_ret
            exact ⟨by rw [← HV.out, fitsB_false.2 ⟨j, hlj, i, hij, HG.out⟩]; rfl, (K0.out.drewN _).drewN _⟩
        · obtain rfl : j = n := by omega
          go_wp2
          go_roundw
          case rel => exact ⟨i + 1, _, by omega, rfl, rfl, Lib.hid (fun i' j' h1 h2 h3 => by
            rcases Nat.lt_or_ge i' i with h | h
            · exact HI.out i' j' h h2 h3
            · obtain rfl : i' = i := by omega
              exact HJ.out.2 j' h2 h3)⟩
          case measure => simp [intOf]; omega
    · obtain rfl : i = n := by omega
      go_wp2
      go_ret
      exact ⟨by rw [← HV.out, fitsB_iff.2 (fun j hj i hi => HI.out i j (by omega) hi hj)]; rfl, K0.out.drewN _⟩

theorem fits_nil (B R : Int) (w : World) : Calls Try.prog 14 #[.agg #[.int .i64 B, .int .i64 R], .slice none 0 0] w (Res (.bool true) w) := by
  go_enter Try.func14, Try.ntmps14
  go_wp2
  go_loopw [5] (fun s5 wr => s5 = .int .i64 0 ∧ Hid (Keep w wr)) (fun _ _ => 0)
  case atStart => exact ⟨rfl, Lib.hid (keepOf (by go_grown))⟩
  case round =>
    obtain ⟨rfl, HK⟩ := hrel
    go_wp2
    go_ret
    exact ⟨rfl, HK.out⟩

theorem fits_any (B R : Int) (v : Value) (l : List (Int × Int)) (w : World) (hBk : okBk B R = true) (hok : okT l = true) (h : RowAt w v l) : Calls Try.prog 14 #[.agg #[.int .i64 B, .int .i64 R], v] w (Res (.bool (fitsL B R l)) w) := by
  rcases h with ⟨rfl, rfl⟩ | ⟨b, off, n, cap, rfl, rfl, h3, h4, h5⟩
  · exact fits_nil B R w
  · exact fits_some b off l.length cap _ _ B R w (okT_iff.1 hok).1 hBk (okT_iff.1 hok).2 h4 h5 _ (Lib.hid rfl)

end Go.Proofs.Ytaknbjjcgcmdlaa
