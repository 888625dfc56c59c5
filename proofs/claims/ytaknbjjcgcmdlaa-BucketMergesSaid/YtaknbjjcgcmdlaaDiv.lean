/- What math/bits.Div64 returns where the quotient fits: the quotient and the rest of the two words. -/
import Derived.Test.YtaknbjjcgcmdlaaRange
import Derived.Test.YtaknbjjcgcmdlaaShelf
import Derived.Outline
import Derived.RegionTactic
import Derived.ChangeAlike
namespace Go.Proofs.Ytaknbjjcgcmdlaa
open Go Go.RowKit

theorem div64_small (lo y : Nat) (w : World) (hlo : lo < 18446744073709551616) (hy : y < 18446744073709551616) (h : 0 < y) :
    Calls Try.prog 27 #[.int .u64 0, .int .u64 lo, .int .u64 y] w fun e w' => e = .returned (.tuple #[.int .u64 ((lo / y : Nat) : Int), .int .u64 ((lo % y : Nat) : Int)]) ∧ GrownT w w' := by
  have y0 : ((y : Int) == 0) = false := by simp; omega
  have E : Hid (IntKind.u64.wrap ((lo : Int) / (y : Int)) = ((lo / y : Nat) : Int)) := Lib.hid (by
    have := Nat.div_le_self lo y
    rw [IntKind.wrap_u64, show (lo : Int) / (y : Int) = ((lo / y : Nat) : Int) from rfl]; generalize lo / y = z at *; omega)
  go_enter Try.func27, Try.ntmps27
  go_wp2
  go_region
  all_goals go_wp2
  all_goals go_ret2
  all_goals exact ⟨by rw [← E.out]; rfl, ⟨by go_grown, by simp⟩⟩

theorem mul_bound (q yn0 : Int) (hq0 : 0 ≤ q) (hq : q < 4294967296) (hy0 : 0 ≤ yn0) (hy : yn0 < 4294967296) : q * yn0 ≤ 18446744073709551615 ∧ 0 ≤ q * yn0 := by
  have h2 : q * yn0 ≤ 4294967295 * 4294967295 := Int.mul_le_mul (by omega) (by omega) hy0 (by omega)
  exact ⟨by omega, Int.mul_nonneg hq0 hy0⟩

/-- What holds at the head of a correcting loop: the two slots are a guess and its rest, the rest within the word. -/
def AtHead (yn1 yn0 u un : Int) (a b : Value) : Prop :=
  ∃ q r : Int, a = .int .u64 q ∧ b = .int .u64 r ∧ 0 ≤ q ∧ q ≤ 4294967297 ∧ 0 ≤ r ∧ r < 4294967296 ∧ Guess 4294967296 yn1.toNat yn0.toNat u.toNat un.toNat q.toNat r.toNat

/-- The three ways through a round, in whole numbers. -/
theorem head_down {yn1 yn0 u un q r : Int} (D : Digits 4294967296 yn1.toNat yn0.toNat u.toNat un.toNat) (G : Guess 4294967296 yn1.toNat yn0.toNat u.toNat un.toNat q.toNat r.toNat)
    (hn1 : 0 ≤ yn1) (hn0 : 0 ≤ yn0) (hun : 0 ≤ un) (hq : 0 ≤ q) (hr : 0 ≤ r) (h : 4294967296 ≤ q ∨ 4294967296 * r + un < q * yn0) :
    1 ≤ q ∧ Guess 4294967296 yn1.toNat yn0.toNat u.toNat un.toNat (q - 1).toNat (r + yn1).toNat := by
  have h' : 4294967296 ≤ q.toNat ∨ r.toNat * 4294967296 + un.toNat < q.toNat * yn0.toNat := by
    rcases h with h | h
    · left; omega
    · right
      have e : ((q.toNat * yn0.toNat : Nat) : Int) = q * yn0 := by rw [Int.natCast_mul, Int.toNat_of_nonneg hq, Int.toNat_of_nonneg hn0]
      generalize q.toNat * yn0.toNat = z at e ⊢
      omega
  obtain ⟨a, b⟩ := G.down D h'
  refine ⟨by omega, ?_⟩
  rw [show (q - 1).toNat = q.toNat - 1 by omega, show (r + yn1).toNat = r.toNat + yn1.toNat by omega]
  exact b
theorem head_stop {yn1 yn0 u un q r : Int} (D : Digits 4294967296 yn1.toNat yn0.toNat u.toNat un.toNat) (G : Guess 4294967296 yn1.toNat yn0.toNat u.toNat un.toNat q.toNat r.toNat)
    (hn0 : 0 ≤ yn0) (hun : 0 ≤ un) (hq : 0 ≤ q) (hr : 0 ≤ r) (h : q * yn0 ≤ 4294967296 * r + un) :
    q.toNat = digit 4294967296 yn1.toNat yn0.toNat u.toNat un.toNat := by
  refine G.stop D ?_
  have e : ((q.toNat * yn0.toNat : Nat) : Int) = q * yn0 := by rw [Int.natCast_mul, Int.toNat_of_nonneg hq, Int.toNat_of_nonneg hn0]
  generalize q.toNat * yn0.toNat = z at e ⊢
  omega

theorem head_eq {yn1 yn0 u un q r q1 : Int} (D : Digits 4294967296 yn1.toNat yn0.toNat u.toNat un.toNat) (G : Guess 4294967296 yn1.toNat yn0.toNat u.toNat un.toNat q.toNat r.toNat)
    (hn0 : 0 ≤ yn0) (hun : 0 ≤ un) (hq : 0 ≤ q) (hr : 0 ≤ r) (h : q * yn0 ≤ 4294967296 * r + un) (h1 : 0 ≤ q1) (e : q1.toNat = digit 4294967296 yn1.toNat yn0.toNat u.toNat un.toNat) : q = q1 := by
  have := head_stop D G hn0 hun hq hr h
  omega
theorem head_broken {yn1 yn0 u un q r q1 : Int} (D : Digits 4294967296 yn1.toNat yn0.toNat u.toNat un.toNat) (G : Guess 4294967296 yn1.toNat yn0.toNat u.toNat un.toNat q.toNat r.toNat)
    (hq : 0 ≤ q) (h1 : 0 ≤ q1) (e : q1.toNat = digit 4294967296 yn1.toNat yn0.toNat u.toNat un.toNat) (hr : 4294967296 ≤ r) (hq' : q ≤ 4294967296) : q = q1 := by
  have := G.broken D (by omega) (by omega)
  omega

set_option maxRecDepth 100000 in
set_option maxHeartbeats 4000000 in
theorem div64_core (s : Nat) (hi lo y Y yn1 yn0 ha ls u L un1 un0 q r q1 u2 q' r' q0 rr Q R : Int) (w : World) (_hlo : 0 ≤ lo ∧ lo < 18446744073709551616) (hy : 0 < y ∧ y < 18446744073709551616) (h : 0 < hi ∧ hi < y) (hs : s ≤ 63) (_hs0 : 0 ≤ (s : Int))
    (LZ : ∀ w, Calls Try.prog 30 #[.int .u64 y] w fun e w' => e = .returned (.int .i64 s) ∧ w = w')
    (_hY : 0 ≤ Y ∧ Y < 18446744073709551616) (hyn1 : 0 < yn1 ∧ yn1 < 4294967296) (hyn0 : 0 ≤ yn0 ∧ yn0 < 4294967296) (hu : 0 ≤ u ∧ u < 18446744073709551616) (_hL : 0 ≤ L ∧ L < 18446744073709551616)
    (hun1 : 0 ≤ un1 ∧ un1 < 4294967296) (hun0 : 0 ≤ un0 ∧ un0 < 4294967296) (hq : 0 ≤ q ∧ q ≤ 4294967297) (hu2 : 0 ≤ u2 ∧ u2 < 18446744073709551616) (hq' : 0 ≤ q' ∧ q' ≤ 4294967297) (hq1 : 0 ≤ q1 ∧ q1 < 4294967296) (hq0 : 0 ≤ q0 ∧ q0 < 4294967296) (_hrr : 0 ≤ rr ∧ rr < 18446744073709551616)
    (K1 : IntKind.u64.wrap (y * 2 ^ s) = Y) (K2 : Y / 4294967296 = yn1) (K3 : bits BinOp.and IntKind.u64 Y 4294967295 = yn0)
    (K4 : IntKind.u64.wrap (hi * 2 ^ s) = ha) (K5 : lo / 2 ^ (64 - s) = ls) (K6 : bits BinOp.or IntKind.u64 ha ls = u)
    (K7 : IntKind.u64.wrap (lo * 2 ^ s) = L) (K8 : L / 4294967296 = un1) (K9 : bits BinOp.and IntKind.u64 L 4294967295 = un0)
    (K10 : Hid (u / yn1 = q)) (K11 : Hid (IntKind.u64.wrap (u - IntKind.u64.wrap (u / yn1 * yn1)) = r))
    (K12 : Hid (IntKind.u64.wrap (IntKind.u64.wrap (IntKind.u64.wrap (u * 4294967296) + un1) - IntKind.u64.wrap (q1 * Y)) = u2))
    (K13 : Hid (u2 / yn1 = q')) (K14 : Hid (IntKind.u64.wrap (u2 - IntKind.u64.wrap (u2 / yn1 * yn1)) = r'))
    (K15 : Hid (IntKind.u64.wrap (IntKind.u64.wrap (IntKind.u64.wrap (u2 * 4294967296) + un0) - IntKind.u64.wrap (q0 * Y)) = rr))
    (D1 : Hid (Digits 4294967296 yn1.toNat yn0.toNat u.toNat un1.toNat)) (G1 : Hid (Guess 4294967296 yn1.toNat yn0.toNat u.toNat un1.toNat q.toNat r.toNat)) (hr : Hid (0 ≤ r ∧ r < 4294967296)) (E1 : Hid (q1.toNat = digit 4294967296 yn1.toNat yn0.toNat u.toNat un1.toNat))
    (D2 : Hid (Digits 4294967296 yn1.toNat yn0.toNat u2.toNat un0.toNat)) (G2 : Hid (Guess 4294967296 yn1.toNat yn0.toNat u2.toNat un0.toNat q'.toNat r'.toNat)) (hr' : Hid (0 ≤ r' ∧ r' < 4294967296)) (E2 : Hid (q0.toNat = digit 4294967296 yn1.toNat yn0.toNat u2.toNat un0.toNat))
    (F1 : Hid (q1 * 4294967296 + q0 = Q)) (F2 : Hid (rr / 2 ^ s = R)) :
    Calls Try.prog 27 #[.int .u64 hi, .int .u64 lo, .int .u64 y] w fun e w' => e = .returned (.tuple #[.int .u64 Q, .int .u64 R]) ∧ GrownT w w' := by
  go_enter Try.func27, Try.ntmps27
  go_wp2_with (go_at_call 30; refine (LZ _).mono ?_; rintro e w' ⟨rfl, rfl⟩)
  clear K1 K2 K3 K4 K5 K6 K7 K8 K9 LZ
  go_loop [15, 16] (fun a b => AtHead yn1 yn0 u un1 a b) (fun a _ => (intOf a).toNat)
  case atStart => exact ⟨q, r, by rw [K10.out], by rw [K11.out], hq.1, hq.2, hr.out.1, hr.out.2, G1.out⟩
  case round =>
    obtain ⟨q, r, rfl, rfl, ha1, ha2, hb1, hb2, G⟩ := hrel
    have HG := Lib.hid G
    clear G
    by_cases hA : q < 4294967296
    · have hm := mul_bound q yn0 ha1 hA hyn0.1 hyn0.2
      by_cases hB : 4294967296 * r + un1 < q * yn0
      · obtain ⟨hq1', hg⟩ := head_down D1.out HG.out (by omega) (by omega) (by omega) ha1 hb1 (Or.inr hB)
        have HG' := Lib.hid hg
        clear hg
        by_cases hC : 4294967296 ≤ r + yn1
        · have e : q - 1 = q1 := head_broken D1.out HG'.out (by omega) hq1.1 E1.out (by omega) (by omega)
          obtain rfl : q = q1 + 1 := by omega
          clear e
          have K12' := K12.out
          go_wp2
          clear K12'
          go_loop [18, 16] (fun a b => AtHead yn1 yn0 u2 un0 a b) (fun a _ => (intOf a).toNat)
          case atStart => exact ⟨q', r', by rw [K13.out], by rw [K14.out], hq'.1, hq'.2, hr'.out.1, hr'.out.2, G2.out⟩
          case round =>
            obtain ⟨q, r, rfl, rfl, ha1, ha2, hb1, hb2, G⟩ := hrel
            have HG := Lib.hid G
            clear G
            by_cases hA : q < 4294967296
            · have hm := mul_bound q yn0 ha1 hA hyn0.1 hyn0.2
              by_cases hB : 4294967296 * r + un0 < q * yn0
              · obtain ⟨hq1', hg⟩ := head_down D2.out HG.out (by omega) (by omega) (by omega) ha1 hb1 (Or.inr hB)
                have HG' := Lib.hid hg
                clear hg
                by_cases hC : 4294967296 ≤ r + yn1
                · have e : q - 1 = q0 := head_broken D2.out HG'.out (by omega) hq0.1 E2.out (by omega) (by omega)
                  obtain rfl : q = q0 + 1 := by omega
                  clear e
                  have K15' := K15.out
                  go_wp2
                  go_ret2
                  exact ⟨by rw [← F1.out, ← F2.out]; rfl, ⟨by go_grown, by simp⟩⟩
                · go_wp2
                  go_round
                  case rel => exact ⟨_, _, rfl, rfl, by omega, by omega, by omega, by omega, HG'.out⟩
                  case measure => simp [intOf]; omega
              · have e : q = q0 := head_eq D2.out HG.out hyn0.1 hun0.1 ha1 hb1 (by omega) hq0.1 E2.out
                subst e
                have K15' := K15.out
                go_wp2
                go_ret2
                exact ⟨by rw [← F1.out, ← F2.out]; rfl, ⟨by go_grown, by simp⟩⟩
            · obtain ⟨hq1', hg⟩ := head_down D2.out HG.out (by omega) (by omega) (by omega) ha1 hb1 (Or.inl (by omega))
              have HG' := Lib.hid hg
              clear hg
              by_cases hC : 4294967296 ≤ r + yn1
              · have e : q - 1 = q0 := head_broken D2.out HG'.out (by omega) hq0.1 E2.out (by omega) (by omega)
                obtain rfl : q = q0 + 1 := by omega
                clear e
                have K15' := K15.out
                go_wp2
                go_ret2
                exact ⟨by rw [← F1.out, ← F2.out]; rfl, ⟨by go_grown, by simp⟩⟩
              · go_wp2
                go_round
                case rel => exact ⟨_, _, rfl, rfl, by omega, by omega, by omega, by omega, HG'.out⟩
                case measure => simp [intOf]; omega
        · go_wp2
          go_round
          case rel => exact ⟨_, _, rfl, rfl, by omega, by omega, by omega, by omega, HG'.out⟩
          case measure => simp [intOf]; omega
      · have e : q = q1 := head_eq D1.out HG.out hyn0.1 hun1.1 ha1 hb1 (by omega) hq1.1 E1.out
        subst e
        have K12' := K12.out
        go_wp2
        clear K12'
        go_loop [18, 16] (fun a b => AtHead yn1 yn0 u2 un0 a b) (fun a _ => (intOf a).toNat)
        case atStart => exact ⟨q', r', by rw [K13.out], by rw [K14.out], hq'.1, hq'.2, hr'.out.1, hr'.out.2, G2.out⟩
        case round =>
          obtain ⟨q, r, rfl, rfl, ha1, ha2, hb1, hb2, G⟩ := hrel
          have HG := Lib.hid G
          clear G
          by_cases hA : q < 4294967296
          · have hm := mul_bound q yn0 ha1 hA hyn0.1 hyn0.2
            by_cases hB : 4294967296 * r + un0 < q * yn0
            · obtain ⟨hq1', hg⟩ := head_down D2.out HG.out (by omega) (by omega) (by omega) ha1 hb1 (Or.inr hB)
              have HG' := Lib.hid hg
              clear hg
              by_cases hC : 4294967296 ≤ r + yn1
              · have e : q - 1 = q0 := head_broken D2.out HG'.out (by omega) hq0.1 E2.out (by omega) (by omega)
                obtain rfl : q = q0 + 1 := by omega
                clear e
                have K15' := K15.out
                go_wp2
                go_ret2
                exact ⟨by rw [← F1.out, ← F2.out]; rfl, ⟨by go_grown, by simp⟩⟩
              · go_wp2
                go_round
                case rel => exact ⟨_, _, rfl, rfl, by omega, by omega, by omega, by omega, HG'.out⟩
                case measure => simp [intOf]; omega
            · have e : q = q0 := head_eq D2.out HG.out hyn0.1 hun0.1 ha1 hb1 (by omega) hq0.1 E2.out
              subst e
              have K15' := K15.out
              go_wp2
              go_ret2
              exact ⟨by rw [← F1.out, ← F2.out]; rfl, ⟨by go_grown, by simp⟩⟩
          · obtain ⟨hq1', hg⟩ := head_down D2.out HG.out (by omega) (by omega) (by omega) ha1 hb1 (Or.inl (by omega))
            have HG' := Lib.hid hg
            clear hg
            by_cases hC : 4294967296 ≤ r + yn1
            · have e : q - 1 = q0 := head_broken D2.out HG'.out (by omega) hq0.1 E2.out (by omega) (by omega)
              obtain rfl : q = q0 + 1 := by omega
              clear e
              have K15' := K15.out
              go_wp2
              go_ret2
              exact ⟨by rw [← F1.out, ← F2.out]; rfl, ⟨by go_grown, by simp⟩⟩
            · go_wp2
              go_round
              case rel => exact ⟨_, _, rfl, rfl, by omega, by omega, by omega, by omega, HG'.out⟩
              case measure => simp [intOf]; omega
    · obtain ⟨hq1', hg⟩ := head_down D1.out HG.out (by omega) (by omega) (by omega) ha1 hb1 (Or.inl (by omega))
      have HG' := Lib.hid hg
      clear hg
      by_cases hC : 4294967296 ≤ r + yn1
      · have e : q - 1 = q1 := head_broken D1.out HG'.out (by omega) hq1.1 E1.out (by omega) (by omega)
        obtain rfl : q = q1 + 1 := by omega
        clear e
        have K12' := K12.out
        go_wp2
        clear K12'
        go_loop [18, 16] (fun a b => AtHead yn1 yn0 u2 un0 a b) (fun a _ => (intOf a).toNat)
        case atStart => exact ⟨q', r', by rw [K13.out], by rw [K14.out], hq'.1, hq'.2, hr'.out.1, hr'.out.2, G2.out⟩
        case round =>
          obtain ⟨q, r, rfl, rfl, ha1, ha2, hb1, hb2, G⟩ := hrel
          have HG := Lib.hid G
          clear G
          by_cases hA : q < 4294967296
          · have hm := mul_bound q yn0 ha1 hA hyn0.1 hyn0.2
            by_cases hB : 4294967296 * r + un0 < q * yn0
            · obtain ⟨hq1', hg⟩ := head_down D2.out HG.out (by omega) (by omega) (by omega) ha1 hb1 (Or.inr hB)
              have HG' := Lib.hid hg
              clear hg
              by_cases hC : 4294967296 ≤ r + yn1
              · have e : q - 1 = q0 := head_broken D2.out HG'.out (by omega) hq0.1 E2.out (by omega) (by omega)
                obtain rfl : q = q0 + 1 := by omega
                clear e
                have K15' := K15.out
                go_wp2
                go_ret2
                exact ⟨by rw [← F1.out, ← F2.out]; rfl, ⟨by go_grown, by simp⟩⟩
              · go_wp2
                go_round
                case rel => exact ⟨_, _, rfl, rfl, by omega, by omega, by omega, by omega, HG'.out⟩
                case measure => simp [intOf]; omega
            · have e : q = q0 := head_eq D2.out HG.out hyn0.1 hun0.1 ha1 hb1 (by omega) hq0.1 E2.out
              subst e
              have K15' := K15.out
              go_wp2
              go_ret2
              exact ⟨by rw [← F1.out, ← F2.out]; rfl, ⟨by go_grown, by simp⟩⟩
          · obtain ⟨hq1', hg⟩ := head_down D2.out HG.out (by omega) (by omega) (by omega) ha1 hb1 (Or.inl (by omega))
            have HG' := Lib.hid hg
            clear hg
            by_cases hC : 4294967296 ≤ r + yn1
            · have e : q - 1 = q0 := head_broken D2.out HG'.out (by omega) hq0.1 E2.out (by omega) (by omega)
              obtain rfl : q = q0 + 1 := by omega
              clear e
              have K15' := K15.out
              go_wp2
              go_ret2
              exact ⟨by rw [← F1.out, ← F2.out]; rfl, ⟨by go_grown, by simp⟩⟩
            · go_wp2
              go_round
              case rel => exact ⟨_, _, rfl, rfl, by omega, by omega, by omega, by omega, HG'.out⟩
              case measure => simp [intOf]; omega
      · go_wp2
        go_round
        case rel => exact ⟨_, _, rfl, rfl, by omega, by omega, by omega, by omega, HG'.out⟩
        case measure => simp [intOf]; omega

end Go.Proofs.Ytaknbjjcgcmdlaa
