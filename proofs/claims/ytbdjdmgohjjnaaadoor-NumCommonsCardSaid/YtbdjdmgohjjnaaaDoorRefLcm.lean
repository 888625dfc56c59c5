/- What the reference's Lcm returns. -/
import Derived.Test.YtbdjdmgohjjnaaaDoorRefMul
import Derived.Test.YtbdjdmgohjjnaaaDoorLcmN
namespace Go.Proofs.YtbdjdmgohjjnaaaDoor
open Go Go.RowKit

theorem gcdS_comm (a b : Int) : gcdS a b = gcdS b a := by
  unfold gcdS
  rw [Nat.gcd_comm]
  by_cases h : inB a = true ∧ inB b = true
  · rw [if_pos h, if_pos ⟨h.2, h.1⟩]
  · rw [if_neg h, if_neg (fun x => h ⟨x.2, x.1⟩)]
theorem lcmI_comm (a b : Int) : lcmI a b = lcmI b a := by unfold lcmI; rw [Nat.lcm_comm]

theorem mulS_lcm' (m n g d : Int) (hm : 1 ≤ m ∧ m ≤ 1125899906842624) (hn : 1 ≤ n ∧ n ≤ 1125899906842624) (hg : gcdS m n = g) (hd : n / g = d) :
    1 ≤ g ∧ 1 ≤ d ∧ d ≤ 1125899906842624 ∧ mulS m d = if lcmI m n ≤ 1125899906842624 then (lcmI m n, true) else (0, false) := by
  rw [gcdS_comm] at hg
  obtain ⟨g1, e, d1, d2⟩ := lcm_step n m g hn hm hg
  have lp := lcmI_pos hm.1 hn.1
  rw [lcmI_comm] at e
  rw [hd] at e d1 d2
  refine ⟨g1, d1, d2, ?_⟩
  rw [mulS_of _ _ hm ⟨d1, d2⟩, Int.mul_comm, e]
  unfold resS
  by_cases h : lcmI m n ≤ 1125899906842624
  · rw [if_pos h, if_pos ((inB_iff _).2 (by omega))]
  · rw [if_neg h, if_neg (by rw [inB_iff]; omega)]

theorem lcmS_bad (zs : List Int) (k : Nat) (hk : k < zs.length) (h : inB (zs.getD k 0) = false ∨ zs.getD k 0 < 1) : lcmS zs = (0, false) := by
  unfold lcmS
  rcases h with h | h
  · rw [if_neg (by rw [allIn_false zs k hk h]; simp)]
  · rw [lcmGo_small 1 zs ⟨zs.getD k 0, by simp [List.getD, List.getElem?_eq_getElem hk], h⟩]
    split <;> rfl

theorem lcmS_good (zs : List Int) (h : ∀ j, j < zs.length → 1 ≤ zs.getD j 0 ∧ zs.getD j 0 ≤ 1125899906842624) : lcmS zs = lcmR (lcmGo 1 zs) := by
  unfold lcmS
  rw [if_pos]
  unfold allIn
  rw [List.all_eq_true]
  intro x hx
  obtain ⟨j, hj, rfl⟩ := List.getElem_of_mem hx
  have := h j hj
  simp [List.getD, List.getElem?_eq_getElem hj] at this
  rw [inB_iff]; omega

/-- At the head of the second loop. -/
def RefLcmAt (W : World) (zs : List Int) (n : Nat) (mv i : Value) (wr : World) : Prop :=
  ∃ (k : Nat) (m : Int), k ≤ n ∧ i = .int .i64 k ∧ mv = .int .i64 m ∧ 1 ≤ m ∧ m ≤ 1125899906842624 ∧ Hid (Grown W wr) ∧ Hid (lcmGo 1 zs = lcmGo m (zs.drop k))

theorem refLcm_nil (w : World) : Calls Tryd.prog 30 #[.slice none 0 0] w (Pair (1, true) w) := by
  go_enter Tryd.func30, Tryd.ntmps30
  go_wp2
  go_loop [5] (fun i => i = .int .i64 0) (fun _ => 0)
  case atStart => rfl
  case round =>
    subst hrel
    go_wp2
    go_loop [4, 6] (fun m i => m = .int .i64 1 ∧ i = .int .i64 0) (fun _ _ => 0)
    case atStart => exact ⟨rfl, rfl⟩
    case round =>
      obtain ⟨rfl, rfl⟩ := hrel
      go_wp2
      go_ret2
      exact ⟨rfl, by go_grown⟩

set_option maxHeartbeats 4000000 in
theorem refLcm_any (b off n cap : Nat) (zs : List Int) (w : World) (hl : zs.length = n) (hm : n ≤ 9223372036854775807)
    (hc : ∀ j, j < n → w.cell? ⟨b, off + j, none⟩ = some (.int .i64 (zs.getD j 0))) :
    Calls Tryd.prog 30 #[.slice (some ⟨b, off, none⟩) n cap] w (Pair (lcmS zs) w) := by
  have HC := Lib.hid hc
  clear hc
  go_enter Tryd.func30, Tryd.ntmps30
  go_wp2
  go_loop [5] (fun i => ∃ k : Nat, k ≤ n ∧ i = .int .i64 k ∧ Hid (∀ j, j < k → 1 ≤ zs.getD j 0 ∧ zs.getD j 0 ≤ 1125899906842624)) (fun i => n - (intOf i).toNat)
  case atStart => exact ⟨0, Nat.zero_le _, rfl, Lib.hid (fun j hj => absurd hj (Nat.not_lt_zero j))⟩
  case round =>
    obtain ⟨k, hk, rfl, HA⟩ := hrel
    by_cases hlt : k < n
    · have hkl : k < zs.length := by omega
      have hcell := HC.out k hlt
      obtain ⟨z, hz⟩ : ∃ z, zs.getD k 0 = z := ⟨_, rfl⟩
      rw [hz] at hcell
      have HZ := Lib.hid hz
      clear hz
      cases hin : inB z with
      | false =>
        have H := Lib.hid (lcmS_bad zs k hkl (Or.inl (by rw [HZ.out]; exact hin)))
        have HI := Lib.hid hin
        clear hin
        go_wp2_with (go_at_call 35; ((with_reducible refine (refIn_any z false _ HI.out).mono ?_); rintro e w' ⟨rfl, rfl⟩))
        go_ret2
        exact ⟨by rw [H.out]; rfl, by go_grown⟩
      | true =>
        have zb := (inB_iff z).1 hin
        have HI := Lib.hid hin
        clear hin
        by_cases h1 : z < 1
        · have H := Lib.hid (lcmS_bad zs k hkl (Or.inr (by rw [HZ.out]; exact h1)))
          go_wp2_with (go_at_call 35; ((with_reducible refine (refIn_any z true _ HI.out).mono ?_); rintro e w' ⟨rfl, rfl⟩))
          go_ret2
          exact ⟨by rw [H.out]; rfl, by go_grown⟩
        · go_wp2_with (go_at_call 35; ((with_reducible refine (refIn_any z true _ HI.out).mono ?_); rintro e w' ⟨rfl, rfl⟩))
          go_round
          case rel => exact ⟨k + 1, by omega, by go_num, Lib.hid (fun j hj => by
            rcases Nat.lt_or_ge j k with h | h
            · exact HA.out j h
            · obtain rfl : j = k := by omega
              rw [HZ.out]; omega)⟩
          case measure => simp [intOf]; omega
    · obtain rfl : k = n := by omega
      have HS := Lib.hid (lcmS_good zs (by rw [hl]; exact HA.out))
      have HB := Lib.hid HA.out
      go_wp2_with fail
      clear HA
      go_loopw [4, 6] (fun mv i wr => RefLcmAt w zs k mv i wr) (fun _ i _ => k - (intOf i).toNat)
      case atStart => exact ⟨0, 1, Nat.zero_le _, rfl, rfl, by omega, by omega, Lib.hid (Grown.refl _), Lib.hid (by rw [List.drop_zero])⟩
      case round =>
        obtain ⟨j, m, hj, rfl, rfl, m1, m2, hgr, hgo⟩ := hrel
        by_cases hlt : j < k
        · have hjl : j < zs.length := by omega
          have hcell := grownSome hgr.out (HC.out j hlt)
          have hzb := HB.out j hlt
          have hd0 := Lib.hid (drop_getD zs j hjl)
          obtain ⟨z, hz⟩ : ∃ z, zs.getD j 0 = z := ⟨_, rfl⟩
          rw [hz] at hcell hzb hd0
          have HZ := Lib.hid hz
          clear hz
          obtain ⟨g, hg⟩ : ∃ g, gcdS m z = g := ⟨_, rfl⟩
          obtain ⟨d, hd⟩ : ∃ d, z / g = d := ⟨_, rfl⟩
          obtain ⟨g1, d1, d2, hr⟩ := mulS_lcm' m z g d ⟨m1, m2⟩ hzb hg hd
          have K : IntKind.i64.wrap (z.tdiv g) = d := by rw [← hd]; exact IntWalk.i64_quo z g ⟨by omega, by omega, g1⟩
          have G := Lib.hid hg
          have lp := lcmI_pos m1 hzb.1
          have hjk : (j : Int) < (k : Int) := by omega
          clear hg hd
          by_cases h2 : lcmI m z ≤ 1125899906842624
          · rw [if_pos h2] at hr
            have HGO2 : Hid (lcmGo 1 zs = lcmGo (lcmI m z) (zs.drop (j + 1))) := Lib.hid (by rw [hgo.out, hd0.out, lcmGo_cons, if_pos ⟨by omega, h2⟩])
            obtain ⟨v, hv⟩ : ∃ v, lcmI m z = v := ⟨_, rfl⟩
            rw [hv] at lp h2 HGO2 hr
            have R := Lib.hid hr
            clear hv hr
            go_wp2_with fail
            go_region_with (first | (go_at_call 28; ((with_reducible refine (refGcd_any m z _).mono ?_); rw [G.out]; rintro e w1 ⟨rfl, hg1⟩; have hc1 : w1.cell? ⟨b, off + j, none⟩ = some (.int .i64 z) := grownSome hg1 (by first | assumption | (simp [*]; done)))) | (go_at_call 17; ((with_reducible refine (refMul_any m d _).mono ?_); rw [R.out]; rintro e w2 ⟨rfl, hg2⟩)))
            all_goals (go_wp2; go_roundw)
            all_goals first | exact ⟨j + 1, v, by omega, by go_num, rfl, lp, h2, Lib.hid (grownTrans (grownTrans (by first | exact hgr.out | exact hgr.out.drew) hg1) hg2), HGO2⟩ | (simp [intOf]; omega)
          · rw [if_neg h2] at hr
            have HGO2 : Hid (lcmR (lcmGo 1 zs) = (0, false)) := Lib.hid (by rw [hgo.out, hd0.out, lcmGo_cons, if_neg (fun h => h2 h.2)]; rfl)
            have R := Lib.hid hr
            clear hr h2 lp
            go_wp2_with fail
            go_region_with (first | (go_at_call 28; ((with_reducible refine (refGcd_any m z _).mono ?_); rw [G.out]; rintro e w1 ⟨rfl, hg1⟩; have hc1 : w1.cell? ⟨b, off + j, none⟩ = some (.int .i64 z) := grownSome hg1 (by first | assumption | (simp [*]; done)))) | (go_at_call 17; ((with_reducible refine (refMul_any m d _).mono ?_); rw [R.out]; rintro e w2 ⟨rfl, hg2⟩)))
            all_goals (go_wp2; go_ret2; exact ⟨by rw [HS.out, HGO2.out]; rfl, grownTrans (grownTrans (by first | exact hgr.out | exact hgr.out.drew) hg1) hg2⟩)
        · obtain rfl : j = k := by omega
          go_wp2
          go_ret2
          exact ⟨by rw [HS.out, hgo.out, List.drop_of_length_le (by omega)]; rfl, hgr.out⟩

end Go.Proofs.YtbdjdmgohjjnaaaDoor
