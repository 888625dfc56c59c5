/- areCuts, and the reference's allowed. -/
import Derived.Test.YtgejpbgpgklimaaMCutM
import Derived.Test.YtgejpbgpgklimaaMChk
import Derived.Test.YtgejpbgpgklimaaKeep
import Derived.WalkKit
import Derived.ProofKit
import Derived.Handy
import Derived.WalkSpells
namespace Go.Proofs.Ytgejpbgpgklimaa
open Go Go.RowKit

set_option maxRecDepth 100000 in
theorem areCuts_is (v : Value) (cuts : List Int) (L : Int) (r : Bool) (w : World) (hL : 64 ≤ L ∧ L ≤ 1522) (h : ListAt w v cuts) (H : Hid (okCuts L cuts = r)) :
    Calls Try.prog 38 #[v, .int .i64 L] w fun e w' => e = .returned (.bool r) ∧ w' = w := by
  have hLw : wrap64 (L - 64) = L - 64 := by unfold wrap64; omega
  rcases h with ⟨rfl, rfl⟩ | ⟨b, off, n, cap, rfl, hn, hm, hc⟩
  · obtain rfl : true = r := H.out
    go_enter Try.func38, Try.ntmps38
    go_wp2
    go_loop [10] (fun i => i = .int .i64 0) (fun _ => 0)
    case atStart => rfl
    case round =>
      subst hrel
      go_wp2
      go_ret
      exact ⟨rfl, rfl⟩
  · go_enter Try.func38, Try.ntmps38
    go_wp2
    go_loop [5, 10] (fun s i => ∃ k : Nat, k ≤ n ∧ i = .int .i64 k ∧ s = .int .i64 (frI cuts k) ∧ okTo L cuts k = true) (fun _ i => n - (intOf i).toNat)
    case atStart => exact ⟨0, Nat.zero_le _, rfl, rfl, rfl⟩
    case round =>
      obtain ⟨k, hk, rfl, rfl, hok⟩ := hrel
      have HA := Lib.hid hok
      have hfr := okTo_fr hok
      clear hok
      by_cases hlt : k < n
      · have hcell := hc k hlt
        have HC := Lib.hid hc
        clear hc
        have hs : frI cuts (k + 1) = cuts.getD k 0 := frI_succ cuts k
        have hst : okTo L cuts (k + 1) = (okTo L cuts k && inB (frI cuts k + 60) (cuts.getD k 0) (L - 64)) := rfl
        rw [HA.out, Bool.true_and] at hst
        obtain ⟨z, hz⟩ : ∃ z, cuts.getD k 0 = z := ⟨_, rfl⟩
        rw [hz] at hcell hs hst
        obtain ⟨y, hy⟩ : ∃ y, frI cuts k = y := ⟨_, rfl⟩
        rw [hy] at hfr hst ⊢
        obtain ⟨y2, hy2⟩ : ∃ y2, y + 60 = y2 := ⟨_, rfl⟩
        rw [hy2] at hst
        have hyw : wrap64 (y + 60) = y2 := by unfold wrap64; omega
        cases hb : inB y2 z (L - 64) with
        | true =>
          have HB := Lib.hid hb
          have HS := Lib.hid hs
          have HST := Lib.hid (hst.trans hb)
          clear hb hs hst hz hy
          go_wp2_with (go_at_call 36; ((with_reducible refine (mbet_is _ _ _ _ _ HB).mono ?_); rintro e' w1 ⟨rfl, rfl⟩))
          go_round
          case rel => exact ⟨k + 1, by omega, by go_num, by rw [HS.out], HST.out⟩
          case measure => simp [intOf]; omega
        | false =>
          have HB := Lib.hid hb
          have HR : Hid (false = r) := Lib.hid (by rw [← H.out]; exact (okTo_no (hst.trans hb) (by omega)).symm)
          clear hb hs hst hz hy
          go_wp2_with (go_at_call 36; ((with_reducible refine (mbet_is _ _ _ _ _ HB).mono ?_); rintro e' w1 ⟨rfl, rfl⟩))
          go_ret
          exact ⟨by have h5 := HR.out; subst h5; rfl, rfl⟩
      · obtain rfl : k = n := by omega
        have HC := Lib.hid hc
        clear hc
        go_wp2
        go_ret
        exact ⟨by have h5 := H.out; unfold okCuts at h5; rw [hn, HA.out] at h5; subst h5; rfl, rfl⟩
set_option maxRecDepth 100000 in
set_option maxHeartbeats 1000000 in
theorem allowed_is (v : Value) (cuts : List Int) (s : ByteArray) (r : Bool) (w : World) (hL : 64 ≤ s.size ∧ s.size ≤ 1522) (h : ListAt w v cuts) (H : Hid (okCuts s.size cuts = r)) :
    Calls Try.prog 42 #[.string s, v] w fun e w' => e = .returned (.bool r) ∧ w' = w := by
  obtain ⟨L, hLe⟩ : ∃ L : Int, (s.size : Int) = L := ⟨_, rfl⟩
  have hLb : 64 ≤ L ∧ L ≤ 1522 := by omega
  rw [hLe] at H
  have hLw : wrap64 (L - 64) = L - 64 := by unfold wrap64; omega
  rcases h with ⟨rfl, rfl⟩ | ⟨b, off, n, cap, rfl, hn, hm, hc⟩
  · obtain rfl : true = r := H.out
    go_enter Try.func42, Try.ntmps42
    go_wp2
    go_loop [6] (fun i => i = .int .i64 0) (fun _ => 0)
    case atStart => rfl
    case round =>
      subst hrel
      go_wp2
      go_ret
      exact ⟨rfl, rfl⟩
  · go_enter Try.func42, Try.ntmps42
    go_wp2
    go_loop [5, 6] (fun s i => ∃ k : Nat, k ≤ n ∧ i = .int .i64 k ∧ s = .int .i64 (frI cuts k) ∧ okTo L cuts k = true) (fun _ i => n - (intOf i).toNat)
    case atStart => exact ⟨0, Nat.zero_le _, rfl, rfl, rfl⟩
    case round =>
      obtain ⟨k, hk, rfl, rfl, hok⟩ := hrel
      have HA := Lib.hid hok
      have hfr := okTo_fr hok
      clear hok
      by_cases hlt : k < n
      · have hcell := hc k hlt
        have HC := Lib.hid hc
        clear hc
        have hs : frI cuts (k + 1) = cuts.getD k 0 := frI_succ cuts k
        have hst : okTo L cuts (k + 1) = (okTo L cuts k && inB (frI cuts k + 60) (cuts.getD k 0) (L - 64)) := rfl
        rw [HA.out, Bool.true_and] at hst
        obtain ⟨z, hz⟩ : ∃ z, cuts.getD k 0 = z := ⟨_, rfl⟩
        rw [hz] at hcell hs hst
        obtain ⟨y, hy⟩ : ∃ y, frI cuts k = y := ⟨_, rfl⟩
        rw [hy] at hfr hst ⊢
        have HS := Lib.hid hs
        have HZ := Lib.hid hz
        have HY := Lib.hid hy
        clear hs hz hy
        by_cases h1 : L - 64 < z
        · have HR : Hid (false = r) := Lib.hid (by rw [← H.out]; exact (okTo_no (hst.trans (by unfold inB; exact decide_eq_false (by omega))) (by omega)).symm)
          clear hst
          go_wp2
          go_ret
          exact ⟨by have h5 := HR.out; subst h5; rfl, rfl⟩
        · by_cases h2 : z < 0
          · have HR : Hid (false = r) := Lib.hid (by rw [← H.out]; exact (okTo_no (hst.trans (by unfold inB; exact decide_eq_false (by omega))) (by omega)).symm)
            clear hst
            go_wp2
            go_ret
            exact ⟨by have h5 := HR.out; subst h5; rfl, rfl⟩
          · have hzw : wrap64 (z - y) = z - y := by unfold wrap64; omega
            by_cases h3 : z - y < 60
            · have HR : Hid (false = r) := Lib.hid (by rw [← H.out]; exact (okTo_no (hst.trans (by unfold inB; exact decide_eq_false (by omega))) (by omega)).symm)
              clear hst
              go_wp2
              go_ret
              exact ⟨by have h5 := HR.out; subst h5; rfl, rfl⟩
            · have HST : Hid (okTo L cuts (k + 1) = true) := Lib.hid (hst.trans (by unfold inB; exact decide_eq_true (by omega)))
              clear hst
              go_wp2
              go_round
              case rel => exact ⟨k + 1, by omega, by go_num, by rw [HS.out], HST.out⟩
              case measure => simp [intOf]; omega
      · obtain rfl : k = n := by omega
        have HC := Lib.hid hc
        clear hc
        go_wp2
        go_ret
        exact ⟨by have h5 := H.out; unfold okCuts at h5; rw [hn, HA.out] at h5; subst h5; rfl, rfl⟩
end Go.Proofs.Ytgejpbgpgklimaa
