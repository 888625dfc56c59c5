/- What Octets, Seal and Mark return, the package's and the reference's. -/
import Derived.Test.YtgejpbgpgklimaaCExt
import Derived.Test.YtgejpbgpgklimaaWPut2
namespace Go.Proofs.Ytgejpbgpgklimaa
open Go Go.RowKit

theorem cv_shl (x : BitVec 32) (k : Nat) : cv x * 2 ^ k % 4294967296 = cv (x <<< k) := by
  unfold cv
  rw [BitVec.toNat_shiftLeft, Nat.shiftLeft_eq]
  simp
def mask : BitVec 32 := 16711935#32
theorem cv_mask : cv mask = 16711935 := by decide
def half (x : BitVec 32) : BitVec 32 := ((x >>> 8) &&& mask) ||| ((x &&& mask) <<< 8)
def rev (x : BitVec 32) : BitVec 32 := (half x >>> 16) ||| (half x <<< 16)
theorem rev_bit (x : BitVec 32) (j i : Nat) (hj : j < 4) (hi : i < 8) : (rev x).getLsbD (8 * (3 - j) + i) = x.getLsbD (8 * j + i) := by
  have h1 : j = 0 ∨ j = 1 ∨ j = 2 ∨ j = 3 := by omega
  have h2 : i = 0 ∨ i = 1 ∨ i = 2 ∨ i = 3 ∨ i = 4 ∨ i = 5 ∨ i = 6 ∨ i = 7 := by omega
  rcases h1 with rfl | rfl | rfl | rfl <;> rcases h2 with rfl | rfl | rfl | rfl | rfl | rfl | rfl | rfl <;> simp [rev, half, mask]
/-- The check octets as a string. -/
def octS (c : Int) : ByteArray := ⟨(octL c).toArray⟩
theorem octS_size (c) : (octS c).size = 4 := rfl
theorem octS_list (c) : (octS c).data.toList = octL c := rfl
theorem enc_rev (x : BitVec 32) : encS (cv (rev x)) 4 = octS (cv x) := by
  have e : encL (cv (rev x)) 4 = octL (cv x) := by
    have hb : ∀ j, j < 4 → toB (byteOf (cv (rev x)) (3 - j)) = toB (octAt (cv x) (8 * j)) := by
      intro j hj
      have e1 : byteOf (cv (rev x)) (3 - j) = octAt (cv (rev x)) (8 * (3 - j)) := by
        unfold byteOf octAt
        rw [show (256 : Int) = 2 ^ 8 by decide, ← Int.pow_mul]
      rw [e1]
      apply byte_ext
      intro i hi
      rw [octAt_bit _ _ i hi, octAt_bit _ _ i hi, rev_bit x j i hj hi]
    have h0 := hb 0 (by omega)
    have h1 := hb 1 (by omega)
    have h2 := hb 2 (by omega)
    have h3 := hb 3 (by omega)
    simp only [encL, encI, octL, octI, List.map_cons, List.map_nil]
    rw [h0, h1, h2, h3]
  unfold encS octS
  rw [e]
set_option maxRecDepth 100000 in
theorem rev_any (x : BitVec 32) (w : World) : Calls Try.prog 65 #[.int .u32 (cv x)] w fun e w' => e = .returned (.int .u32 (cv (rev x))) ∧ w' = w := by
  have hc := cv_bd x
  have e0 := cv_mask
  have e1 : cv x / (256 : Int) = cv (x >>> 8) := cv_shr x 8
  have e2 : bits .and .u32 (cv (x >>> 8)) 16711935 = cv ((x >>> 8) &&& mask) := by rw [← cv_mask, cv_and]
  have e3 : bits .and .u32 (cv x) 16711935 = cv (x &&& mask) := by rw [← cv_mask, cv_and]
  have e4 : cv (x &&& mask) * (256 : Int) % (4294967296 : Int) = cv ((x &&& mask) <<< 8) := cv_shl _ 8
  have e5 := cv_or ((x >>> 8) &&& mask) ((x &&& mask) <<< 8)
  have e6 : cv (half x) / (65536 : Int) = cv (half x >>> 16) := cv_shr _ 16
  have e7 : cv (half x) * (65536 : Int) % (4294967296 : Int) = cv (half x <<< 16) := cv_shl _ 16
  have e8 := cv_or (half x >>> 16) (half x <<< 16)
  have HE : Hid (bits .or .u32 (bits .or .u32 (bits .and .u32 (cv x / 256) 16711935) (bits .and .u32 (cv x) 16711935 * 256 % 4294967296) / 65536) (bits .or .u32 (bits .and .u32 (cv x / 256) 16711935) (bits .and .u32 (cv x) 16711935 * 256 % 4294967296) * 65536 % 4294967296) = cv (rev x)) := Lib.hid (by
    rw [e1, e2, e3, e4, e5]
    change bits .or .u32 (cv (half x) / 65536) (cv (half x) * 65536 % 4294967296) = _
    rw [e6, e7, e8]; rfl)
  clear e0 e1 e2 e3 e4 e5 e6 e7 e8
  generalize cv (rev x) = r at *
  generalize cv x = c at *
  go_enter Try.func65, Try.ntmps65
  go_wp2
  go_ret
  exact ⟨congrArg (fun z => Ending.returned (.int .u32 z)) HE.out, rfl⟩
theorem rev_is (c r : Int) (w : World) (hc : 0 ≤ c ∧ c < 4294967296) (H : Hid (cv (rev (bvOf c)) = r)) : Calls Try.prog 65 #[.int .u32 c] w fun e w' => e = .returned (.int .u32 r) ∧ w' = w := by
  have := rev_any (bvOf c) w
  rwa [H.out, cv_bvOf hc] at this

set_option maxRecDepth 100000 in
theorem octets_is (c : Int) (t : ByteArray) (w : World) (hc : 0 ≤ c ∧ c < 4294967296) (H : Hid (octS c = t)) : Calls Try.prog 50 #[.int .u32 c] w (Res (.string t) w) := by
  obtain ⟨r, hr⟩ : ∃ r, cv (rev (bvOf c)) = r := ⟨_, rfl⟩
  have hb : 0 ≤ r ∧ r < 4294967296 := by rw [← hr]; exact cv_bd _
  have H1 := Lib.hid hr
  have hin : -(0 : Int) ≤ r ∧ r ≤ 256 ^ 4 - 1 := by constructor <;> omega
  have HT : Hid (putS ⟨#[]⟩ r 4 = t) := Lib.hid (by
    unfold putS putR putOk limF
    rw [if_pos (by omega)]
    simp only [Bool.false_eq_true, if_false, Int.reduceToNat]
    rw [if_pos (decide_eq_true (by omega)), ← H.out, ← hr, enc_rev, cv_bvOf hc]
    exact ByteArray.empty_append)
  have HE : Hid (putE r 4 = 0) := Lib.hid (by
    unfold putE putC putOk limF
    rw [if_pos (by omega)]
    simp only [Bool.false_eq_true, if_false, Int.reduceToNat]
    rw [if_pos (decide_eq_true (by omega))])
  clear hr hin
  have hz : (⟨#[]⟩ : ByteArray).size ≤ 1000 := by decide
  go_enter Try.func50, Try.ntmps50
  go_wp2_with (first | (go_at_call 65; ((with_reducible refine (rev_is c r _ hc H1).mono ?_); rintro e w1 ⟨rfl, rfl⟩)) | (go_at_call 64; ((with_reducible refine (wput_is ⟨#[]⟩ r 4 t 0 _ hz HT HE).mono ?_); rintro e w2 ⟨rfl, k2⟩)))
  go_ret
  exact ⟨rfl, k2⟩

theorem four_string (a b c d : Int) (w : World) : (convert 23 9 (.slice (some ⟨w.heap.size, 0, none⟩) 4 4)).run Try.prog (w.alloc (Obj.cells #[.int .u8 a, .int .u8 b, .int .u8 c, .int .u8 d] 5)) = .ok (.string (strOfNums [a, b, c, d])) (w.alloc (Obj.cells #[.int .u8 a, .int .u8 b, .int .u8 c, .int .u8 d] 5)) := by
  refine run_convert_bytes_arg (P := Try.prog) (w.alloc (Obj.cells #[.int .u8 a, .int .u8 b, .int .u8 c, .int .u8 d] 5)) 23 5 (by kernel_rfl) (by kernel_rfl) w.heap.size 0 4 4 [a, b, c, d] rfl (fun i hi => ?_) 9 (by kernel_rfl)
  have : i = 0 ∨ i = 1 ∨ i = 2 ∨ i = 3 := by omega
  rcases this with rfl | rfl | rfl | rfl <;> simp [go_sem]
set_option maxRecDepth 100000 in
theorem refOctets_is (c : Int) (t : ByteArray) (w : World) (hc : 0 ≤ c ∧ c < 4294967296) (H : Hid (octS c = t)) : Calls Try.prog 34 #[.int .u32 c] w (Res (.string t) w) := by
  have hconv := four_string (c % 256) (c / 256 % 256) (c / 65536 % 256) (c / 16777216)
  have ht : strOfNums [c % 256, c / 256 % 256, c / 65536 % 256, c / 16777216] = t := by
    rw [← H.out]
    have e0 : octAt c 0 = c % 256 := by unfold octAt; omega
    have e1 : octAt c 8 = c / 256 % 256 := by unfold octAt; omega
    have e2 : octAt c 16 = c / 65536 % 256 := by unfold octAt; omega
    have e3 : octAt c 24 = c / 16777216 := by unfold octAt; omega
    show _ = strOfNums (octI c)
    unfold octI
    rw [e0, e1, e2, e3]
  rw [ht] at hconv
  clear ht
  go_enter Try.func34, Try.ntmps34
  go_wp2
  go_ret
  exact ⟨rfl, (Keep.refl _).alloc _⟩
end Go.Proofs.Ytgejpbgpgklimaa
