/- What the reference's Same returns of equal rows. -/
import Derived.Test.YtgejpbgpgklimaaMPcs
import Derived.BigRegion
namespace Go.Proofs.Ytgejpbgpgklimaa
open Go Go.RowKit

theorem RowP.any {w : World} {v : Value} {l : List Pc} (h : RowP w v l) : ∃ a cap, v = .slice a l.length cap ∧ l.length ≤ maxLen ∧ ∀ j p, l[j]? = some p → ∃ b off, a = some ⟨b, off, none⟩ ∧ PcIn w b (off + j * 4) p := by
  rcases h with ⟨rfl, rfl⟩ | ⟨b, off, n, cap, rfl, rfl, h3, h4⟩
  · exact ⟨none, 0, rfl, by simp, fun j p hj => by simp at hj⟩
  · exact ⟨_, cap, rfl, by omega, fun j p hj => ⟨b, off, rfl, h4 j p hj⟩⟩
theorem RowP.get {l : List Pc} {j : Nat} (h : j < l.length) : ∃ p, l[j]? = some p := ⟨l[j], List.getElem?_eq_getElem h⟩
set_option maxRecDepth 100000 in
set_option maxHeartbeats 2000000 in
theorem same_is (u v : Value) (l : List Pc) (w : World) (hu : RowP w u l) (hv : RowP w v l) : Calls Try.prog 15 #[u, v] w (Res (.bool true) w) := by
  obtain ⟨a, ca, rfl, hm, ha⟩ := hu.any
  obtain ⟨b, cb, rfl, _, hb⟩ := hv.any
  have HA := Lib.hid ha
  have HB := Lib.hid hb
  obtain ⟨n, hn⟩ : ∃ n, l.length = n := ⟨_, rfl⟩
  rw [hn] at hm ⊢
  unfold maxLen at hm
  clear ha hb hu hv
  go_enter Try.func15, Try.ntmps15
  go_wp2
  go_loopw [5] (fun i wr => ∃ k : Nat, k ≤ n ∧ i = .int .i64 k ∧ Hid (Keep w wr)) (fun i _ => n - (intOf i).toNat)
  case atStart => exact ⟨0, Nat.zero_le _, rfl, Lib.hid (Keep.refl _)⟩
  case round =>
    obtain ⟨k, hk, rfl, HK⟩ := hrel
    by_cases hlt : k < n
    · obtain ⟨p, hp⟩ := RowP.get (l := l) (j := k) (by omega)
      obtain ⟨b1, o1, rfl, h1⟩ := HA.out k p hp
      obtain ⟨b2, o2, rfl, h2⟩ := HB.out k p hp
      obtain ⟨p0, p1, p2, p3⟩ := h1.keep HK.out
      obtain ⟨q0, q1, q2, q3⟩ := h2.keep HK.out
      obtain ⟨p0', p1', p2', p3'⟩ := h1.keep HK.out.drew
      obtain ⟨q0', q1', q2', q3'⟩ := h2.keep HK.out.drew
      obtain ⟨S, m, c, X⟩ := p
      dsimp only at p0 p1 p2 p3 q0 q1 q2 q3 p0' p1' p2' p3' q0' q1' q2' q3'
      clear hp h1 h2
      go_upto_region 6 with fail
      go_region
      go_wp2
      go_roundw
      case rel => exact ⟨k + 1, by omega, by go_num, Lib.hid HK.out.drew⟩
      case measure => simp [intOf]; omega
    · obtain rfl : k = n := by omega
      go_wp2
      go_ret
      exact ⟨rfl, HK.out⟩
end Go.Proofs.Ytgejpbgpgklimaa
