/- What slow and clearing of the reference return: the same clearing time. -/
import Derived.Test.YtmamadgikjkjdaaDelay
import Derived.Test.YtmamadgikjkjdaaJoin
namespace Go.Proofs.Ytmamadgikjkjdaa
open Go Go.RowKit

theorem rowForm {w : World} {a0 : Option Addr} {n cap : Nat} {l : List (Int × Int)} (h : RowAt w (.slice a0 n cap) l) : l.length = n ∧ n ≤ 9223372036854775807 ∧ ∀ j, j < n → ∃ b off, a0 = some ⟨b, off, none⟩ ∧ w.cell? ⟨b, off + j * 2, none⟩ = some (.int .i64 (atL l j)) ∧ w.cell? ⟨b, off + j * 2 + 1, none⟩ = some (.int .i64 (szL l j)) := by
  rcases h with ⟨h1, h2⟩ | ⟨b, off, m, c, h1, h2, h3, h4, h5⟩
  · cases h1
    subst h2
    exact ⟨rfl, by omega, fun j hj => by omega⟩
  · cases h1
    exact ⟨h2, by omega, fun j hj => ⟨b, off, rfl, h4 j hj, h5 j hj⟩⟩
theorem anyN_succ (p : Nat → Bool) (n : Nat) : anyN p (n + 1) = (anyN p n || p n) := by
  unfold anyN; rw [List.range_succ, List.any_append]; simp

set_option maxRecDepth 100000 in
set_option maxHeartbeats 1000000 in
theorem refSlow_is (a0 : Option Addr) (n cap : Nat) (l : List (Int × Int)) (R : Int) (t : Bool) (w : World) (h : Hid (RowAt w (.slice a0 n cap) l)) (H : Hid (slowAny l R = t)) :
    Calls Try.prog 59 #[.slice a0 n cap, .int .i64 R] w (Res (.bool t) w) := by
  obtain ⟨h1, hm, h2⟩ := rowForm h.out
  have HL := Lib.hid h1
  have HC := Lib.hid h2
  clear h1 h2 h
  go_enter Try.func59, Try.ntmps59
  go_wp2
  go_loopw [5] (fun s5 wr => ∃ k : Nat, k ≤ n ∧ s5 = .int .i64 k ∧ Hid (anyN (fun k => decide (szL l k ≤ R)) k = false ∧ Keep w wr)) (fun i _ => n - (intOf i).toNat)
  case atStart => exact ⟨0, Nat.zero_le _, rfl, Lib.hid ⟨rfl, Keep.refl _⟩⟩
  case round =>
    obtain ⟨k, hk, rfl, HR⟩ := hrel
    by_cases hlt : k < n
    · obtain ⟨b, off, rfl, c0, c1⟩ := HC.out k hlt
      have c1 := HR.out.2.some c1
      have eA := anyN_succ (fun k => decide (szL l k ≤ R)) k
      obtain ⟨x, hx⟩ : ∃ x, szL l k = x := ⟨_, rfl⟩
      rw [hx] at c1
      simp only [hx] at eA
      by_cases hs : x ≤ R
      · have ht : t = true := by
          rw [← H.out]
          exact anyN_yes (k := k) (by rw [HL.out]; exact hlt) (by simp [hx, hs])
        subst ht
        clear eA hx c0
        go_wp2
        go_ret
        exact ⟨rfl, HR.out.2⟩
      · have hs' : R < x := by omega
        have HA : Hid (anyN (fun k => decide (szL l k ≤ R)) (k + 1) = false) := Lib.hid (by rw [eA, HR.out.1]; simp [hs])
        clear eA hx c0
        go_wp2
        go_roundw
        case rel => exact ⟨k + 1, by omega, rfl, Lib.hid ⟨HA.out, HR.out.2⟩⟩
        case measure => simp [intOf]; omega
    · obtain rfl : k = n := by omega
      have ht : t = false := by
        rw [← H.out]
        unfold slowAny
        rw [HL.out]; exact HR.out.1
      subst ht
      go_wp2
      go_ret
      exact ⟨rfl, HR.out.2⟩

/-- The least of the numbers so far; -1 if there is none. -/
def refMin (l : List Int) : Int := if l = [] then -1 else minL 1125899906842624 l
theorem refMin_bd {l : List Int} (h : ∀ x ∈ l, 0 ≤ x) : -1 ≤ refMin l ∧ refMin l ≤ 1125899906842624 := by
  unfold refMin
  split
  · omega
  · have := minL_bd l 1125899906842624 (by omega) h; omega
theorem refMin_snoc {l : List Int} {x : Int} (hx : x ≤ 1125899906842624) : refMin (l ++ [x]) = if l = [] then x else min (refMin l) x := by
  unfold refMin
  rw [if_neg (by simp), minL_snoc]
  split
  · rename_i h
    subst h
    simp [minL]; omega
  · rfl
theorem refMin_neg {l : List Int} (h : ∀ x ∈ l, 0 ≤ x) : refMin l < 0 ↔ l = [] := by
  unfold refMin
  split
  · rename_i h'; simp [h']
  · rename_i h'
    have := minL_bd l 1125899906842624 (by omega) h
    simp only [h', iff_false]; omega

theorem outerL_ne {a s : Nat → Int} {R : Int} {n : Nat} : ∀ {k : Nat}, anyN (fun k => decide (s k ≤ R)) k = true → outerL a s R n k ≠ []
  | 0, h => by simp [anyN] at h
  | k + 1, h => by
    rw [anyN_succ, Bool.or_eq_true] at h
    simp only [outerL]
    rcases h with h | h
    · have := outerL_ne (a := a) (n := n) h
      simp [this]
    · have h' : s k ≤ R := of_decide_eq_true h
      rw [if_pos h']; simp
set_option maxRecDepth 100000 in
set_option maxHeartbeats 4000000 in
theorem refClearing_is (a0 : Option Addr) (n cap : Nat) (l : List (Int × Int)) (R q : Int) (w : World) (hR : 1 ≤ R ∧ R ≤ 2097152) (hb : bucketsE l = 0) (hsl : slowAny l R = true) (h : Hid (RowAt w (.slice a0 n cap) l)) (H : Hid (clearS l R = q)) :
    Calls Try.prog 60 #[.slice a0 n cap, .int .i64 R] w (Res (.int .i64 q) w) := by
  obtain ⟨h1, hm, h2⟩ := rowForm h.out
  have hok := (bucketsE_row hb).2.2
  rw [h1] at hok
  have HOK := Lib.hid hok
  have HC := Lib.hid h2
  have HSL := Lib.hid hsl
  have HQ : Hid (minL 1125899906842624 (outerL (atL l) (szL l) R n n) = q) := Lib.hid (by rw [← H.out, ← h1]; rfl)
  have hn : n ≤ 12 := by rw [← h1]; exact (bucketsE_row hb).2.1
  have HL := Lib.hid h1
  clear h1 h2 h hok H hsl hb
  go_enter Try.func60, Try.ntmps60
  go_wp2
  go_loopw [5, 6] (fun s5 s6 wr => ∃ (k : Nat) (m : Int), k ≤ n ∧ s6 = .int .i64 k ∧ s5 = .int .i64 m ∧ (-1 ≤ m ∧ m ≤ 1125899906842624) ∧ Hid (refMin (outerL (atL l) (szL l) R n k) = m ∧ Keep w wr)) (fun _ i _ => n - (intOf i).toNat)
  case atStart => exact ⟨0, -1, Nat.zero_le _, rfl, rfl, by omega, Lib.hid ⟨rfl, Keep.refl _⟩⟩
  case round =>
    obtain ⟨k, m, hk, rfl, rfl, hm1, HR⟩ := hrel
    by_cases hlt : k < n
    · obtain ⟨b, off, rfl, c0, c1⟩ := HC.out k hlt
      have c0 := HR.out.2.some c0
      have c1 := HR.out.2.some c1
      have bk := okBk_iff.1 (okEach_at HOK.out hlt)
      have eL : outerL (atL l) (szL l) R n (k + 1) = outerL (atL l) (szL l) R n k ++ (if szL l k ≤ R then ceilD (atL l k * 1048576) R :: innerL (atL l) (szL l) R (atL l k) (szL l k) n else []) := rfl
      have hnn := outerL_nonneg HOK.out hR.1 k (by omega)
      obtain ⟨x, hx⟩ : ∃ x, atL l k = x := ⟨_, rfl⟩
      obtain ⟨y, hy⟩ : ∃ y, szL l k = y := ⟨_, rfl⟩
      rw [hx, hy] at bk eL
      rw [hx] at c0
      rw [hy] at c1
      clear hx hy
      have hbk := cellBlock c0
      by_cases hys : y ≤ R
      · rw [if_pos hys] at eL
        have HLk := Lib.hid eL
        obtain ⟨u, hu⟩ : ∃ u, x * 1048576 = u := ⟨_, rfl⟩
        have bu : 0 ≤ u ∧ u ≤ 1099511627776 := by omega
        have hcb := slowD_le (B := x) hR.1 bk.2.1
        have hc0 := ceilD_nonneg (n := x * 1048576) (d := R) (by omega) (by omega)
        obtain ⟨c, hc⟩ : ∃ c, ceilD (x * 1048576) R = c := ⟨_, rfl⟩
        rw [hc] at hcb hc0
        have HCc : Hid (ceilD u R = c) := Lib.hid (by rw [← hu]; exact hc)
        have HCe := Lib.hid hc
        -- the least behind this number
        obtain ⟨m', hm'⟩ : ∃ m', refMin (outerL (atL l) (szL l) R n k ++ [c]) = m' := ⟨_, rfl⟩
        have hsn := refMin_snoc (l := outerL (atL l) (szL l) R n k) (x := c) (by omega)
        have hng := refMin_neg hnn
        rw [HR.out.1] at hsn hng
        rw [hm'] at hsn
        have HM' := Lib.hid hm'
        clear hc hm' eL
        have hmm : m' = (if m < 0 ∨ c < m then c else m) ∧ 0 ≤ m' ∧ m' ≤ 1125899906842624 := by
          by_cases hl : outerL (atL l) (szL l) R n k = []
          · rw [if_pos hl] at hsn
            have := hng.2 hl
            rw [if_pos (Or.inl this)]; omega
          · rw [if_neg hl] at hsn
            have : ¬ m < 0 := fun hh => hl (hng.1 hh)
            by_cases hcm : c < m
            · rw [if_pos (Or.inr hcm)]; omega
            · rw [if_neg (by omega)]; omega
        clear hsn hng hnn
        obtain ⟨hm2, hm3⟩ := hmm
        by_cases hneg : m < 0
        · rw [if_pos (Or.inl hneg)] at hm2
          replace hm2 := hm2.symm
          subst hm2
          have KB := Lib.hid (HR.out.2.alloc (.cells #[.int .i64 x, .int .i64 y] 30))
          obtain ⟨X, hXe⟩ : ∃ X, wr.heap.size = X := ⟨_, rfl⟩
          go_wp2_with (go_at_call 62; ((with_reducible refine (ceil_is u R c _ (by omega) (by omega) HCc).mono ?_); rintro e w' ⟨rfl, rfl⟩))
          go_loopw [5, 9] (fun s5 s9 wi => ∃ (j : Nat) (v : Int), j ≤ n ∧ s9 = .int .i64 j ∧ s5 = .int .i64 v ∧ (0 ≤ v ∧ v ≤ 1125899906842624) ∧ wi.cell? ⟨X, 0, none⟩ = some (.int .i64 x) ∧ wi.cell? ⟨X, 1, none⟩ = some (.int .i64 y) ∧ Hid (refMin (outerL (atL l) (szL l) R n k ++ c :: innerL (atL l) (szL l) R x y j) = v ∧ Keep w wi)) (fun _ i _ => n - (intOf i).toNat)
          case atStart => exact ⟨0, c, Nat.zero_le _, rfl, rfl, by omega, by rw [← hXe]; simp [go_sem], by rw [← hXe]; simp [go_sem], Lib.hid ⟨HM'.out, KB.out⟩⟩
          case round =>
            obtain ⟨j, v, hj, rfl, rfl, hv, f0, f1, HI⟩ := hrel
            by_cases hlj : j < n
            · obtain ⟨b', off', eab, d0, d1⟩ := HC.out j hlj
              cases eab
              have d0 := HI.out.2.some d0
              have d1 := HI.out.2.some d1
              have bj := okBk_iff.1 (okEach_at HOK.out hlj)
              have eI : innerL (atL l) (szL l) R x y (j + 1) = innerL (atL l) (szL l) R x y j ++ (if R < szL l j ∧ atL l j < x then [crossD (atL l j) (szL l j) x y R] else []) := rfl
              obtain ⟨p, hp⟩ : ∃ p, atL l j = p := ⟨_, rfl⟩
              obtain ⟨s, hs⟩ : ∃ s, szL l j = s := ⟨_, rfl⟩
              rw [hp, hs] at bj eI
              rw [hp] at d0
              rw [hs] at d1
              clear hp hs
              have hbd := cellBlock d0
              have hbX := cellBlock f0
              by_cases hsR : R < s
              · by_cases hpx : p < x
                · rw [if_pos ⟨hsR, hpx⟩] at eI
                  have hq0 := cross_nonneg (Ba := p) (Sa := s) (Bb := x) (Sb := y) hR.1 hsR hys (by omega) (by omega)
                  have hq1 := cross_le (Ba := p) (Bb := x) hR.1 hsR hys (by omega)
                  have hq2 := slowD_le (B := x) hR.1 bk.2.1
                  obtain ⟨u', hu'⟩ : ∃ u', crossD p s x y R = u' := ⟨_, rfl⟩
                  rw [hu'] at eI hq0 hq1
                  have hsnoc := refMin_snoc (l := outerL (atL l) (szL l) R n k ++ c :: innerL (atL l) (szL l) R x y j) (x := u') (by omega)
                  rw [if_neg (by simp), HI.out.1] at hsnoc
                  obtain ⟨v', hv'⟩ : ∃ v', min v u' = v' := ⟨_, rfl⟩
                  rw [hv'] at hsnoc
                  have HV : Hid (refMin (outerL (atL l) (szL l) R n k ++ c :: innerL (atL l) (szL l) R x y (j + 1)) = v') := Lib.hid (by rw [eI, ← hsnoc]; simp)
                  have bv' : 0 ≤ v' ∧ v' ≤ 1125899906842624 := by omega
                  clear eI hsnoc
                  obtain ⟨D1, hD1⟩ : ∃ D1, s - R = D1 := ⟨_, rfl⟩
                  obtain ⟨D2, hD2⟩ : ∃ D2, R - y = D2 := ⟨_, rfl⟩
                  obtain ⟨D3, hD3⟩ : ∃ D3, s - y = D3 := ⟨_, rfl⟩
                  have bD1 : 0 ≤ D1 ∧ D1 ≤ 2097152 := by omega
                  have bD2 : 0 ≤ D2 ∧ D2 ≤ 2097152 := by omega
                  have bD3 : 1 ≤ D3 ∧ D3 ≤ 2097152 := by omega
                  have p1 := prod_bd bD1.1 bD1.2 (show 0 ≤ x by omega) bk.2.1
                  have p2 := prod_bd bD2.1 bD2.2 (show 0 ≤ p by omega) bj.2.1
                  have p3 := prod_bd (show 0 ≤ R by omega) hR.2 (show 0 ≤ D3 by omega) bD3.2
                  have p4 : 1 ≤ R * D3 := by have := Int.mul_pos (show 0 < R by omega) (show 0 < D3 by omega); omega
                  unfold crossD at hu'
                  rw [hD1, hD2, hD3] at hu'
                  obtain ⟨P1, hP1⟩ : ∃ P1, D1 * x = P1 := ⟨_, rfl⟩
                  obtain ⟨P2, hP2⟩ : ∃ P2, D2 * p = P2 := ⟨_, rfl⟩
                  obtain ⟨M, hM⟩ : ∃ M, R * D3 = M := ⟨_, rfl⟩
                  rw [hP1, hP2, hM] at hu'
                  rw [hP1] at p1
                  rw [hP2] at p2
                  rw [hM] at p3 p4
                  obtain ⟨N, hN⟩ : ∃ N, P1 + P2 = N := ⟨_, rfl⟩
                  rw [hN] at hu'
                  have bN : 0 ≤ N ∧ N ≤ 4398046511104 := by omega
                  obtain ⟨NU, hNU⟩ : ∃ NU, N * 1048576 = NU := ⟨_, rfl⟩
                  rw [hNU] at hu'
                  have bNU : 0 ≤ NU ∧ NU ≤ 4611686018427387904 := by omega
                  have bM : 1 ≤ M ∧ M ≤ 4398046511104 := by omega
                  have HU := Lib.hid hu'
                  clear hu' p4
                  go_wp2_with (go_at_call 62; ((with_reducible refine (ceil_is NU M u' _ (by omega) (by omega) HU).mono ?_); rintro e w' ⟨rfl, rfl⟩))
                  go_roundw
                  case rel => exact ⟨j + 1, v', by omega, rfl, rfl, bv', cell_alloc_old _ f0, cell_alloc_old _ f1, Lib.hid ⟨HV.out, HI.out.2.alloc _⟩⟩
                  case measure => simp [intOf]; omega
                · have hpx' : x ≤ p := by omega
                  rw [if_neg (by omega), List.append_nil] at eI
                  have HV : Hid (refMin (outerL (atL l) (szL l) R n k ++ c :: innerL (atL l) (szL l) R x y (j + 1)) = v) := Lib.hid (by rw [eI]; exact HI.out.1)
                  clear eI
                  go_wp2
                  go_roundw
                  case rel => exact ⟨j + 1, v, by omega, rfl, rfl, hv, cell_alloc_old _ f0, cell_alloc_old _ f1, Lib.hid ⟨HV.out, HI.out.2.alloc _⟩⟩
                  case measure => simp [intOf]; omega
              · have hsR' : s ≤ R := by omega
                rw [if_neg (by omega), List.append_nil] at eI
                have HV : Hid (refMin (outerL (atL l) (szL l) R n k ++ c :: innerL (atL l) (szL l) R x y (j + 1)) = v) := Lib.hid (by rw [eI]; exact HI.out.1)
                clear eI
                go_wp2
                go_roundw
                case rel => exact ⟨j + 1, v, by omega, rfl, rfl, hv, cell_alloc_old _ f0, cell_alloc_old _ f1, Lib.hid ⟨HV.out, HI.out.2.alloc _⟩⟩
                case measure => simp [intOf]; omega
            · obtain rfl : j = n := by omega
              go_wp2
              go_roundw
              case rel => exact ⟨k + 1, v, by omega, rfl, rfl, by omega, Lib.hid ⟨by rw [HLk.out, HCe.out]; exact HI.out.1, HI.out.2⟩⟩
              case measure => simp [intOf]; omega
        · have hneg' : 0 ≤ m := by omega
          by_cases hcm : c < m
          · rw [if_pos (Or.inr hcm)] at hm2
            replace hm2 := hm2.symm
            subst hm2
            have KB := Lib.hid (HR.out.2.alloc (.cells #[.int .i64 x, .int .i64 y] 30))
            obtain ⟨X, hXe⟩ : ∃ X, wr.heap.size = X := ⟨_, rfl⟩
            go_wp2_with (go_at_call 62; ((with_reducible refine (ceil_is u R c _ (by omega) (by omega) HCc).mono ?_); rintro e w' ⟨rfl, rfl⟩))
            go_loopw [5, 9] (fun s5 s9 wi => ∃ (j : Nat) (v : Int), j ≤ n ∧ s9 = .int .i64 j ∧ s5 = .int .i64 v ∧ (0 ≤ v ∧ v ≤ 1125899906842624) ∧ wi.cell? ⟨X, 0, none⟩ = some (.int .i64 x) ∧ wi.cell? ⟨X, 1, none⟩ = some (.int .i64 y) ∧ Hid (refMin (outerL (atL l) (szL l) R n k ++ c :: innerL (atL l) (szL l) R x y j) = v ∧ Keep w wi)) (fun _ i _ => n - (intOf i).toNat)
            case atStart => exact ⟨0, c, Nat.zero_le _, rfl, rfl, by omega, by rw [← hXe]; simp [go_sem], by rw [← hXe]; simp [go_sem], Lib.hid ⟨HM'.out, KB.out⟩⟩
            case round =>
              obtain ⟨j, v, hj, rfl, rfl, hv, f0, f1, HI⟩ := hrel
              by_cases hlj : j < n
              · obtain ⟨b', off', eab, d0, d1⟩ := HC.out j hlj
                cases eab
                have d0 := HI.out.2.some d0
                have d1 := HI.out.2.some d1
                have bj := okBk_iff.1 (okEach_at HOK.out hlj)
                have eI : innerL (atL l) (szL l) R x y (j + 1) = innerL (atL l) (szL l) R x y j ++ (if R < szL l j ∧ atL l j < x then [crossD (atL l j) (szL l j) x y R] else []) := rfl
                obtain ⟨p, hp⟩ : ∃ p, atL l j = p := ⟨_, rfl⟩
                obtain ⟨s, hs⟩ : ∃ s, szL l j = s := ⟨_, rfl⟩
                rw [hp, hs] at bj eI
                rw [hp] at d0
                rw [hs] at d1
                clear hp hs
                have hbd := cellBlock d0
                have hbX := cellBlock f0
                by_cases hsR : R < s
                · by_cases hpx : p < x
                  · rw [if_pos ⟨hsR, hpx⟩] at eI
                    have hq0 := cross_nonneg (Ba := p) (Sa := s) (Bb := x) (Sb := y) hR.1 hsR hys (by omega) (by omega)
                    have hq1 := cross_le (Ba := p) (Bb := x) hR.1 hsR hys (by omega)
                    have hq2 := slowD_le (B := x) hR.1 bk.2.1
                    obtain ⟨u', hu'⟩ : ∃ u', crossD p s x y R = u' := ⟨_, rfl⟩
                    rw [hu'] at eI hq0 hq1
                    have hsnoc := refMin_snoc (l := outerL (atL l) (szL l) R n k ++ c :: innerL (atL l) (szL l) R x y j) (x := u') (by omega)
                    rw [if_neg (by simp), HI.out.1] at hsnoc
                    obtain ⟨v', hv'⟩ : ∃ v', min v u' = v' := ⟨_, rfl⟩
                    rw [hv'] at hsnoc
                    have HV : Hid (refMin (outerL (atL l) (szL l) R n k ++ c :: innerL (atL l) (szL l) R x y (j + 1)) = v') := Lib.hid (by rw [eI, ← hsnoc]; simp)
                    have bv' : 0 ≤ v' ∧ v' ≤ 1125899906842624 := by omega
                    clear eI hsnoc
                    obtain ⟨D1, hD1⟩ : ∃ D1, s - R = D1 := ⟨_, rfl⟩
                    obtain ⟨D2, hD2⟩ : ∃ D2, R - y = D2 := ⟨_, rfl⟩
                    obtain ⟨D3, hD3⟩ : ∃ D3, s - y = D3 := ⟨_, rfl⟩
                    have bD1 : 0 ≤ D1 ∧ D1 ≤ 2097152 := by omega
                    have bD2 : 0 ≤ D2 ∧ D2 ≤ 2097152 := by omega
                    have bD3 : 1 ≤ D3 ∧ D3 ≤ 2097152 := by omega
                    have p1 := prod_bd bD1.1 bD1.2 (show 0 ≤ x by omega) bk.2.1
                    have p2 := prod_bd bD2.1 bD2.2 (show 0 ≤ p by omega) bj.2.1
                    have p3 := prod_bd (show 0 ≤ R by omega) hR.2 (show 0 ≤ D3 by omega) bD3.2
                    have p4 : 1 ≤ R * D3 := by have := Int.mul_pos (show 0 < R by omega) (show 0 < D3 by omega); omega
                    unfold crossD at hu'
                    rw [hD1, hD2, hD3] at hu'
                    obtain ⟨P1, hP1⟩ : ∃ P1, D1 * x = P1 := ⟨_, rfl⟩
                    obtain ⟨P2, hP2⟩ : ∃ P2, D2 * p = P2 := ⟨_, rfl⟩
                    obtain ⟨M, hM⟩ : ∃ M, R * D3 = M := ⟨_, rfl⟩
                    rw [hP1, hP2, hM] at hu'
                    rw [hP1] at p1
                    rw [hP2] at p2
                    rw [hM] at p3 p4
                    obtain ⟨N, hN⟩ : ∃ N, P1 + P2 = N := ⟨_, rfl⟩
                    rw [hN] at hu'
                    have bN : 0 ≤ N ∧ N ≤ 4398046511104 := by omega
                    obtain ⟨NU, hNU⟩ : ∃ NU, N * 1048576 = NU := ⟨_, rfl⟩
                    rw [hNU] at hu'
                    have bNU : 0 ≤ NU ∧ NU ≤ 4611686018427387904 := by omega
                    have bM : 1 ≤ M ∧ M ≤ 4398046511104 := by omega
                    have HU := Lib.hid hu'
                    clear hu' p4
                    go_wp2_with (go_at_call 62; ((with_reducible refine (ceil_is NU M u' _ (by omega) (by omega) HU).mono ?_); rintro e w' ⟨rfl, rfl⟩))
                    go_roundw
                    case rel => exact ⟨j + 1, v', by omega, rfl, rfl, bv', cell_alloc_old _ f0, cell_alloc_old _ f1, Lib.hid ⟨HV.out, HI.out.2.alloc _⟩⟩
                    case measure => simp [intOf]; omega
                  · have hpx' : x ≤ p := by omega
                    rw [if_neg (by omega), List.append_nil] at eI
                    have HV : Hid (refMin (outerL (atL l) (szL l) R n k ++ c :: innerL (atL l) (szL l) R x y (j + 1)) = v) := Lib.hid (by rw [eI]; exact HI.out.1)
                    clear eI
                    go_wp2
                    go_roundw
                    case rel => exact ⟨j + 1, v, by omega, rfl, rfl, hv, cell_alloc_old _ f0, cell_alloc_old _ f1, Lib.hid ⟨HV.out, HI.out.2.alloc _⟩⟩
                    case measure => simp [intOf]; omega
                · have hsR' : s ≤ R := by omega
                  rw [if_neg (by omega), List.append_nil] at eI
                  have HV : Hid (refMin (outerL (atL l) (szL l) R n k ++ c :: innerL (atL l) (szL l) R x y (j + 1)) = v) := Lib.hid (by rw [eI]; exact HI.out.1)
                  clear eI
                  go_wp2
                  go_roundw
                  case rel => exact ⟨j + 1, v, by omega, rfl, rfl, hv, cell_alloc_old _ f0, cell_alloc_old _ f1, Lib.hid ⟨HV.out, HI.out.2.alloc _⟩⟩
                  case measure => simp [intOf]; omega
              · obtain rfl : j = n := by omega
                go_wp2
                go_roundw
                case rel => exact ⟨k + 1, v, by omega, rfl, rfl, by omega, Lib.hid ⟨by rw [HLk.out, HCe.out]; exact HI.out.1, HI.out.2⟩⟩
                case measure => simp [intOf]; omega
          · have hcm' : m ≤ c := by omega
            rw [if_neg (by omega)] at hm2
            subst hm2
            have KB := Lib.hid (HR.out.2.alloc (.cells #[.int .i64 x, .int .i64 y] 30))
            obtain ⟨X, hXe⟩ : ∃ X, wr.heap.size = X := ⟨_, rfl⟩
            go_wp2_with (go_at_call 62; ((with_reducible refine (ceil_is u R c _ (by omega) (by omega) HCc).mono ?_); rintro e w' ⟨rfl, rfl⟩))
            go_loopw [5, 9] (fun s5 s9 wi => ∃ (j : Nat) (v : Int), j ≤ n ∧ s9 = .int .i64 j ∧ s5 = .int .i64 v ∧ (0 ≤ v ∧ v ≤ 1125899906842624) ∧ wi.cell? ⟨X, 0, none⟩ = some (.int .i64 x) ∧ wi.cell? ⟨X, 1, none⟩ = some (.int .i64 y) ∧ Hid (refMin (outerL (atL l) (szL l) R n k ++ c :: innerL (atL l) (szL l) R x y j) = v ∧ Keep w wi)) (fun _ i _ => n - (intOf i).toNat)
            case atStart => exact ⟨0, m', Nat.zero_le _, rfl, rfl, by omega, by rw [← hXe]; simp [go_sem], by rw [← hXe]; simp [go_sem], Lib.hid ⟨HM'.out, KB.out⟩⟩
            case round =>
              obtain ⟨j, v, hj, rfl, rfl, hv, f0, f1, HI⟩ := hrel
              by_cases hlj : j < n
              · obtain ⟨b', off', eab, d0, d1⟩ := HC.out j hlj
                cases eab
                have d0 := HI.out.2.some d0
                have d1 := HI.out.2.some d1
                have bj := okBk_iff.1 (okEach_at HOK.out hlj)
                have eI : innerL (atL l) (szL l) R x y (j + 1) = innerL (atL l) (szL l) R x y j ++ (if R < szL l j ∧ atL l j < x then [crossD (atL l j) (szL l j) x y R] else []) := rfl
                obtain ⟨p, hp⟩ : ∃ p, atL l j = p := ⟨_, rfl⟩
                obtain ⟨s, hs⟩ : ∃ s, szL l j = s := ⟨_, rfl⟩
                rw [hp, hs] at bj eI
                rw [hp] at d0
                rw [hs] at d1
                clear hp hs
                have hbd := cellBlock d0
                have hbX := cellBlock f0
                by_cases hsR : R < s
                · by_cases hpx : p < x
                  · rw [if_pos ⟨hsR, hpx⟩] at eI
                    have hq0 := cross_nonneg (Ba := p) (Sa := s) (Bb := x) (Sb := y) hR.1 hsR hys (by omega) (by omega)
                    have hq1 := cross_le (Ba := p) (Bb := x) hR.1 hsR hys (by omega)
                    have hq2 := slowD_le (B := x) hR.1 bk.2.1
                    obtain ⟨u', hu'⟩ : ∃ u', crossD p s x y R = u' := ⟨_, rfl⟩
                    rw [hu'] at eI hq0 hq1
                    have hsnoc := refMin_snoc (l := outerL (atL l) (szL l) R n k ++ c :: innerL (atL l) (szL l) R x y j) (x := u') (by omega)
                    rw [if_neg (by simp), HI.out.1] at hsnoc
                    obtain ⟨v', hv'⟩ : ∃ v', min v u' = v' := ⟨_, rfl⟩
                    rw [hv'] at hsnoc
                    have HV : Hid (refMin (outerL (atL l) (szL l) R n k ++ c :: innerL (atL l) (szL l) R x y (j + 1)) = v') := Lib.hid (by rw [eI, ← hsnoc]; simp)
                    have bv' : 0 ≤ v' ∧ v' ≤ 1125899906842624 := by omega
                    clear eI hsnoc
                    obtain ⟨D1, hD1⟩ : ∃ D1, s - R = D1 := ⟨_, rfl⟩
                    obtain ⟨D2, hD2⟩ : ∃ D2, R - y = D2 := ⟨_, rfl⟩
                    obtain ⟨D3, hD3⟩ : ∃ D3, s - y = D3 := ⟨_, rfl⟩
                    have bD1 : 0 ≤ D1 ∧ D1 ≤ 2097152 := by omega
                    have bD2 : 0 ≤ D2 ∧ D2 ≤ 2097152 := by omega
                    have bD3 : 1 ≤ D3 ∧ D3 ≤ 2097152 := by omega
                    have p1 := prod_bd bD1.1 bD1.2 (show 0 ≤ x by omega) bk.2.1
                    have p2 := prod_bd bD2.1 bD2.2 (show 0 ≤ p by omega) bj.2.1
                    have p3 := prod_bd (show 0 ≤ R by omega) hR.2 (show 0 ≤ D3 by omega) bD3.2
                    have p4 : 1 ≤ R * D3 := by have := Int.mul_pos (show 0 < R by omega) (show 0 < D3 by omega); omega
                    unfold crossD at hu'
                    rw [hD1, hD2, hD3] at hu'
                    obtain ⟨P1, hP1⟩ : ∃ P1, D1 * x = P1 := ⟨_, rfl⟩
                    obtain ⟨P2, hP2⟩ : ∃ P2, D2 * p = P2 := ⟨_, rfl⟩
                    obtain ⟨M, hM⟩ : ∃ M, R * D3 = M := ⟨_, rfl⟩
                    rw [hP1, hP2, hM] at hu'
                    rw [hP1] at p1
                    rw [hP2] at p2
                    rw [hM] at p3 p4
                    obtain ⟨N, hN⟩ : ∃ N, P1 + P2 = N := ⟨_, rfl⟩
                    rw [hN] at hu'
                    have bN : 0 ≤ N ∧ N ≤ 4398046511104 := by omega
                    obtain ⟨NU, hNU⟩ : ∃ NU, N * 1048576 = NU := ⟨_, rfl⟩
                    rw [hNU] at hu'
                    have bNU : 0 ≤ NU ∧ NU ≤ 4611686018427387904 := by omega
                    have bM : 1 ≤ M ∧ M ≤ 4398046511104 := by omega
                    have HU := Lib.hid hu'
                    clear hu' p4
                    go_wp2_with (go_at_call 62; ((with_reducible refine (ceil_is NU M u' _ (by omega) (by omega) HU).mono ?_); rintro e w' ⟨rfl, rfl⟩))
                    go_roundw
                    case rel => exact ⟨j + 1, v', by omega, rfl, rfl, bv', cell_alloc_old _ f0, cell_alloc_old _ f1, Lib.hid ⟨HV.out, HI.out.2.alloc _⟩⟩
                    case measure => simp [intOf]; omega
                  · have hpx' : x ≤ p := by omega
                    rw [if_neg (by omega), List.append_nil] at eI
                    have HV : Hid (refMin (outerL (atL l) (szL l) R n k ++ c :: innerL (atL l) (szL l) R x y (j + 1)) = v) := Lib.hid (by rw [eI]; exact HI.out.1)
                    clear eI
                    go_wp2
                    go_roundw
                    case rel => exact ⟨j + 1, v, by omega, rfl, rfl, hv, cell_alloc_old _ f0, cell_alloc_old _ f1, Lib.hid ⟨HV.out, HI.out.2.alloc _⟩⟩
                    case measure => simp [intOf]; omega
                · have hsR' : s ≤ R := by omega
                  rw [if_neg (by omega), List.append_nil] at eI
                  have HV : Hid (refMin (outerL (atL l) (szL l) R n k ++ c :: innerL (atL l) (szL l) R x y (j + 1)) = v) := Lib.hid (by rw [eI]; exact HI.out.1)
                  clear eI
                  go_wp2
                  go_roundw
                  case rel => exact ⟨j + 1, v, by omega, rfl, rfl, hv, cell_alloc_old _ f0, cell_alloc_old _ f1, Lib.hid ⟨HV.out, HI.out.2.alloc _⟩⟩
                  case measure => simp [intOf]; omega
              · obtain rfl : j = n := by omega
                go_wp2
                go_roundw
                case rel => exact ⟨k + 1, v, by omega, rfl, rfl, by omega, Lib.hid ⟨by rw [HLk.out, HCe.out]; exact HI.out.1, HI.out.2⟩⟩
                case measure => simp [intOf]; omega
      · have hys' : R < y := by omega
        rw [if_neg hys, List.append_nil] at eL
        have HLk := Lib.hid eL
        clear eL hnn
        go_wp2
        go_roundw
        case rel => exact ⟨k + 1, m, by omega, rfl, rfl, hm1, Lib.hid ⟨by rw [HLk.out]; exact HR.out.1, HR.out.2.alloc _⟩⟩
        case measure => simp [intOf]; omega
    · obtain rfl : k = n := by omega
      have hne : outerL (atL l) (szL l) R k k ≠ [] := outerL_ne (by have := HSL.out; unfold slowAny at this; rw [HL.out] at this; exact this)
      have hm : m = q := by
        rw [← HR.out.1, ← HQ.out]
        unfold refMin
        rw [if_neg hne]
      subst hm
      go_wp2
      go_ret
      exact ⟨rfl, HR.out.2⟩

end Go.Proofs.Ytmamadgikjkjdaa
