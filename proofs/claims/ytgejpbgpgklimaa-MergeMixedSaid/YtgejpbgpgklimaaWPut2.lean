/- What Put and PutSigned return, the package's and the reference's. -/
import Derived.Test.YtgejpbgpgklimaaWPuts
namespace Go.Proofs.Ytgejpbgpgklimaa
open Go Go.RowKit

def putE (n k : Int) : Int := if 0 ≤ n ∧ 1 ≤ k ∧ k ≤ 7 then putC n k.toNat false else 2
def putS (s : ByteArray) (n k : Int) : ByteArray := if 0 ≤ n ∧ 1 ≤ k ∧ k ≤ 7 then putR s n k.toNat false else ⟨#[]⟩
def sputE (n k : Int) : Int := if 1 ≤ k ∧ k ≤ 8 then putC n k.toNat true else 2
def sputS (s : ByteArray) (n k : Int) : ByteArray := if 1 ≤ k ∧ k ≤ 8 then putR s n k.toNat true else ⟨#[]⟩

set_option maxRecDepth 100000 in
theorem limits_any (sgn : Bool) (w : World) : Calls Try.prog 76 #[.bool sgn] w fun e w' => ∃ b, e = .returned (.func (.func 82) #[] #[.pointer (some ⟨b, 0, none⟩)]) ∧ w'.cell? ⟨b, 0, none⟩ = some (.bool sgn) ∧ Keep w w' := by
  go_enter Try.func76, Try.ntmps76
  go_wp2
  go_ret
  exact ⟨_, rfl, by simp [go_sem], (Keep.refl w).alloc _⟩
theorem put_is (s : ByteArray) (n : Int) (k : Int) (sgn : Bool) (b : Nat) (w : World) (t : ByteArray) (e : Int) (hs : s.size ≤ 1000) (c0 : w.cell? ⟨b, 0, none⟩ = some (.bool sgn)) (h1 : 1 ≤ k) (h8 : k ≤ if sgn then 8 else 7)
    (HT : Hid (putR s n k.toNat sgn = t)) (HE : Hid (putC n k.toNat sgn = e)) :
    Calls Try.prog 75 #[.string s, .int .i64 n, .int .i64 k, .func (.func 82) #[] #[.pointer (some ⟨b, 0, none⟩)]] w (Str t e w) := by
  have := put_any s n k sgn b w hs c0 h1 h8
  rwa [HT.out, HE.out] at this

set_option maxRecDepth 100000 in
theorem wput_any (s : ByteArray) (n k : Int) (w : World) (hs : s.size ≤ 1000) : Calls Try.prog 64 #[.string s, .int .i64 n, .int .i64 k] w (Str (putS s n k) (putE n k) w) := by
  unfold putS putE
  by_cases h0 : n < 0
  · rw [if_neg (by omega), if_neg (by omega)]
    go_enter Try.func64, Try.ntmps64
    go_wp2
    go_ret2
    exact ⟨rfl, Keep.refl _⟩
  · by_cases hk : 1 ≤ k ∧ k ≤ 7
    · have HB : Hid (decide (1 ≤ k ∧ k ≤ 7) = true) := Lib.hid (decide_eq_true hk)
      rw [if_pos (by omega), if_pos (by omega)]
      obtain ⟨t, ht⟩ : ∃ t, putR s n k.toNat false = t := ⟨_, rfl⟩
      obtain ⟨e, he⟩ : ∃ e, putC n k.toNat false = e := ⟨_, rfl⟩
      rw [ht, he]
      have HT := Lib.hid ht
      have HE := Lib.hid he
      clear ht he
      go_enter Try.func64, Try.ntmps64
      go_wp2_with (first | (go_at_call 74; ((with_reducible refine (between_is _ _ _ _ _ HB).mono ?_); rintro e' w1 ⟨rfl, k1⟩)) | (go_at_call 76; ((with_reducible refine (limits_any false _).mono ?_); rintro e' w2 ⟨b, rfl, cb, k2⟩)) | (go_at_call 75; ((with_reducible refine (put_is s n k false b _ t e hs cb hk.1 (by simpa using hk.2) HT HE).mono ?_); rintro e' w3 ⟨rfl, k3⟩)))
      go_ret2
      exact ⟨rfl, (k1.trans k2).trans k3⟩
    · have HB : Hid (decide (1 ≤ k ∧ k ≤ 7) = false) := Lib.hid (decide_eq_false hk)
      rw [if_neg (by omega), if_neg (by omega)]
      clear hk
      go_enter Try.func64, Try.ntmps64
      go_wp2_with (go_at_call 74; ((with_reducible refine (between_is _ _ _ _ _ HB).mono ?_); rintro e' w1 ⟨rfl, k1⟩))
      go_ret2
      exact ⟨rfl, k1⟩
theorem wput_is (s : ByteArray) (n k : Int) (t : ByteArray) (e : Int) (w : World) (hs : s.size ≤ 1000) (HT : Hid (putS s n k = t)) (HE : Hid (putE n k = e)) : Calls Try.prog 64 #[.string s, .int .i64 n, .int .i64 k] w (Str t e w) := by
  have := wput_any s n k w hs
  rwa [HT.out, HE.out] at this

end Go.Proofs.Ytgejpbgpgklimaa
