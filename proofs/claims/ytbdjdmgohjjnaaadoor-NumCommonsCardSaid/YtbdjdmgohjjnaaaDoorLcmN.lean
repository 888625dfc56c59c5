/- Lcm of the package num at all lists. -/
import Derived.Test.YtbdjdmgohjjnaaaDoorLcm
namespace Go.Proofs.YtbdjdmgohjjnaaaDoor
open Go Go.RowKit

/-- The closure, by cases of the number: what it answers, and what the variable then holds. -/
theorem inc_step (z m : Int) (b o : Nat) (w : World) (hT : Tab w) (hz : 1 ≤ z ∧ z ≤ 1125899906842624) (hm : 1 ≤ m ∧ m ≤ 1125899906842624) (hc : w.cell? ⟨b, o, none⟩ = some (.int .i64 m)) (hf : w.frozen? ⟨b, o, none⟩ = false)
    (v : Int) (ok : Bool) (hv : (if lcmI m z ≤ 1125899906842624 then (lcmI m z, true) else (0, false)) = (v, ok)) :
    Calls Tryd.prog 42 #[.int .i64 z, .pointer (some ⟨b, o, none⟩)] w fun e w' => e = .returned (.bool ok) ∧ ∃ w1, Grown w w1 ∧ w' = w1.setCell ⟨b, o, none⟩ (.int .i64 v) := by
  obtain ⟨g1, e, d1, d2⟩ := lcm_step m z _ hm hz rfl
  have r := mulS_lcm m z _ hm hz rfl
  rw [hv] at r
  have K : IntKind.i64.wrap (m.tdiv (gcdS m z)) = m / gcdS m z := IntWalk.i64_quo m _ ⟨by omega, by omega, g1⟩
  exact inc_yes z m _ _ (v, ok) b o w hT hz.1 g1 hc hf (Lib.hid rfl) K (Lib.hid r)

theorem lcmGo_cons (m n : Int) (r : List Int) : lcmGo m (n :: r) = if 1 ≤ n ∧ lcmI m n ≤ 1125899906842624 then lcmGo (lcmI m n) r else none := rfl

theorem grownStore {W w1 : World} (h : Grown W w1) (b o : Nat) (v : Value) (hb : W.heap.size ≤ b) : Grown W (w1.setCell ⟨b, o, none⟩ v) := h.setCell hb v

theorem cellStored {w : World} {b o : Nat} {u : Value} (v : Value) (h : w.cell? ⟨b, o, none⟩ = some u) : (w.setCell ⟨b, o, none⟩ v).cell? ⟨b, o, none⟩ = some v := by
  simp [*, go_sem]

theorem lcm_out (b off n cap : Nat) (zs : List Int) (w : World) (hl : zs.length = n) (hm : n ≤ 9223372036854775807)
    (hc : ∀ j, j < n → w.cell? ⟨b, off + j, none⟩ = some (.int .i64 (zs.getD j 0))) (h : allIn zs = false) :
    Calls Tryd.prog 29 #[.slice (some ⟨b, off, none⟩) n cap] w (Pair (0, false) w) := by
  have HC := Lib.hid hc
  have H := Lib.hid h
  clear hc h
  go_enter Tryd.func29, Tryd.ntmps29
  go_wp2_with (go_at_call 33; refine (inRange_any b off n cap zs _ hl hm HC.out).mono ?_; rw [H.out]; rintro e w' ⟨rfl, rfl⟩)
  go_ret2
  exact ⟨rfl, by go_grown⟩

/-- The loop's relation. -/
def LcmAt (W : World) (zs : List Int) (n : Nat) (i : Value) (wr : World) : Prop :=
  ∃ (k : Nat) (m : Int), k ≤ n ∧ i = .int .i64 k ∧ 1 ≤ m ∧ m ≤ 1125899906842624 ∧ wr.cell? ⟨W.heap.size, 0, none⟩ = some (.int .i64 m) ∧ wr.frozen? ⟨W.heap.size, 0, none⟩ = false ∧ Grown W wr ∧ lcmGo 1 zs = lcmGo m (zs.drop k)

set_option maxHeartbeats 1000000 in
theorem lcm_in (b off n cap : Nat) (zs : List Int) (w : World) (hT : Tab w) (hl : zs.length = n) (hm : n ≤ 9223372036854775807)
    (hc : ∀ j, j < n → w.cell? ⟨b, off + j, none⟩ = some (.int .i64 (zs.getD j 0))) (h : allIn zs = true) :
    Calls Tryd.prog 29 #[.slice (some ⟨b, off, none⟩) n cap] w (Pair (lcmR (lcmGo 1 zs)) w) := by
  have HC := Lib.hid hc
  have H := Lib.hid h
  have HT := Lib.hid hT
  clear hc h hT
  go_enter Tryd.func29, Tryd.ntmps29
  go_wp2_with (go_at_call 33; refine (inRange_any b off n cap zs _ hl hm HC.out).mono ?_; rw [H.out]; rintro e w' ⟨rfl, rfl⟩)
  go_loopw [14] (fun i wr => LcmAt w' zs n i wr) (fun i _ => n - (intOf i).toNat)
  case atStart => exact ⟨0, 1, Nat.zero_le _, rfl, by omega, by omega, by simp [go_sem], by simp [go_sem], by go_grown, by rw [List.drop_zero]⟩
  case round =>
    obtain ⟨k, m, hk, rfl, m1, m2, hcm, hfm, hgr, hgo⟩ := hrel
    have HGO := Lib.hid hgo
    have HGR := Lib.hid hgr
    clear hgo hgr
    by_cases hlt : k < n
    · have hkl : k < zs.length := by omega
      have hcell := grownSome HGR.out (HC.out k hlt)
      have hz := allIn_getD zs k hkl H.out
      have hd := Lib.hid (drop_getD zs k hkl)
      obtain ⟨z, hzz⟩ : ∃ z, zs.getD k 0 = z := ⟨_, rfl⟩
      rw [hzz] at hcell hz hd
      have HZ := Lib.hid hzz
      clear hzz
      by_cases h1 : z < 1
      · go_wp2_with (go_at_call 42; ((with_reducible refine (inc_no z _ _ _ h1).mono ?_); rintro e w1 ⟨rfl, rfl⟩))
        go_ret2
        exact ⟨by rw [HGO.out, hd.out, lcmGo_cons, if_neg (by omega)]; rfl, HGR.out⟩
      · by_cases h2 : lcmI m z ≤ 1125899906842624
        · have lp := lcmI_pos m1 (show 1 ≤ z by omega)
          have HGO2 : Hid (lcmGo 1 zs = lcmGo (lcmI m z) (zs.drop (k + 1))) := Lib.hid (by rw [HGO.out, hd.out, lcmGo_cons, if_pos ⟨by omega, h2⟩])
          have hv0 : (if lcmI m z ≤ 1125899906842624 then (lcmI m z, true) else (0, false)) = (lcmI m z, true) := if_pos h2
          obtain ⟨v, hv⟩ : ∃ v, lcmI m z = v := ⟨_, rfl⟩
          have HV : Hid ((if lcmI m z ≤ 1125899906842624 then (lcmI m z, true) else (0, false)) = (v, true)) := Lib.hid (by rw [hv0, hv])
          rw [hv] at lp h2 HGO2
          clear hv hv0
          go_wp2_with (go_at_call 42; ((with_reducible refine (inc_step z m _ _ _ (HT.out.grown HGR.out) ⟨by omega, hz.2⟩ ⟨m1, m2⟩ hcm hfm _ _ HV.out).mono ?_); rintro e w1 ⟨rfl, w2, hg2, rfl⟩))
          go_roundw
          case rel => exact ⟨k + 1, v, by omega, by go_num, lp, h2, cellStored _ (grownSome hg2 hcm), by rw [World.frozen?_setCell, hg2.2.1]; exact hfm, grownStore (grownTrans HGR.out hg2) _ _ _ (Nat.le_refl _), HGO2.out⟩
          case measure => simp [intOf]; omega
        · have HV : Hid ((if lcmI m z ≤ 1125899906842624 then (lcmI m z, true) else (0, false)) = (0, false)) := Lib.hid (if_neg h2)
          have HGO2 : Hid (lcmR (lcmGo 1 zs) = (0, false)) := Lib.hid (by rw [HGO.out, hd.out, lcmGo_cons, if_neg (fun h => h2 h.2)]; rfl)
          clear h2
          go_wp2_with (go_at_call 42; ((with_reducible refine (inc_step z m _ _ _ (HT.out.grown HGR.out) ⟨by omega, hz.2⟩ ⟨m1, m2⟩ hcm hfm _ _ HV.out).mono ?_); rintro e w1 ⟨rfl, w2, hg2, rfl⟩))
          go_ret2
          exact ⟨by rw [HGO2.out]; rfl, grownStore (grownTrans HGR.out hg2) _ _ _ (Nat.le_refl _)⟩
    · obtain rfl : k = n := by omega
      go_wp2
      go_ret2
      exact ⟨by rw [HGO.out, List.drop_of_length_le (by omega)]; rfl, HGR.out⟩

theorem lcm_nil (w : World) : Calls Tryd.prog 29 #[.slice none 0 0] w (Pair (1, true) w) := by
  go_enter Tryd.func29, Tryd.ntmps29
  go_wp2_with (go_at_call 33; refine (inRange_nil _).mono ?_; rintro e w' ⟨rfl, rfl⟩)
  go_loopw [14] (fun i wr => i = .int .i64 0 ∧ wr = w'.alloc (.cells #[.int .i64 1] 3)) (fun _ _ => 0)
  case atStart => exact ⟨rfl, rfl⟩
  case round =>
    obtain ⟨rfl, rfl⟩ := hrel
    go_wp2
    go_ret2
    exact ⟨rfl, by go_grown⟩

theorem lcm_any (b off n cap : Nat) (zs : List Int) (w : World) (hT : Tab w) (hl : zs.length = n) (hm : n ≤ 9223372036854775807)
    (hc : ∀ j, j < n → w.cell? ⟨b, off + j, none⟩ = some (.int .i64 (zs.getD j 0))) :
    Calls Tryd.prog 29 #[.slice (some ⟨b, off, none⟩) n cap] w (Pair (lcmS zs) w) := by
  unfold lcmS
  cases h : allIn zs with
  | true => rw [if_pos rfl]; exact lcm_in b off n cap zs w hT hl hm hc h
  | false => rw [if_neg (by simp)]; exact lcm_out b off n cap zs w hl hm hc h

end Go.Proofs.YtbdjdmgohjjnaaaDoor
