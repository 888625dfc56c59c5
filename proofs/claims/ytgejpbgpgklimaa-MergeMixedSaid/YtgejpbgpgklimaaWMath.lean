/- Big-endian encodings as lists of bytes, their numbers and their order. Nothing is said of the program here. -/
import Derived.Test.YtgejpbgpgklimaaBase
import Derived.Laws.Concat
import Derived.Laws.Strings
import Derived.Laws.Strings2
import Derived.Lib.ConvBytes
import Derived.Laws.BytesString
import Derived.Laws.BytesArg
namespace Go.Proofs.Ytgejpbgpgklimaa
open Go

/-- Digit i (from the end) of n to the base 256. -/
def byteOf (n : Int) (i : Nat) : Int := n / 256 ^ i % 256
theorem byteOf_bd (n : Int) (i : Nat) : 0 ≤ byteOf n i ∧ byteOf n i < 256 := by unfold byteOf; omega
def encI (n : Int) : Nat → List Int
  | 0 => []
  | k + 1 => byteOf n k :: encI n k
theorem encI_length (n : Int) : ∀ k, (encI n k).length = k
  | 0 => rfl
  | k + 1 => by simp [encI, encI_length n k]
def toB (z : Int) : UInt8 := UInt8.ofNat z.toNat
theorem toB_toNat {z : Int} (h : 0 ≤ z ∧ z < 256) : ((toB z).toNat : Int) = z := by
  unfold toB
  rw [UInt8.toNat_ofNat']
  omega
/-- The bytes of n's encoding in k octets. -/
def encL (n : Int) (k : Nat) : List UInt8 := (encI n k).map toB
theorem encL_length (n : Int) (k : Nat) : (encL n k).length = k := by simp [encL, encI_length]
theorem encL_succ (n : Int) (k : Nat) : encL n (k + 1) = toB (byteOf n k) :: encL n k := rfl
/-- The encoding as a string. -/
def encS (n : Int) (k : Nat) : ByteArray := ⟨(encL n k).toArray⟩
theorem encS_size (n : Int) (k : Nat) : (encS n k).size = k := by simp [encS, ByteArray.size, encL_length]
theorem encS_list (n : Int) (k : Nat) : (encS n k).data.toList = encL n k := rfl
theorem encS_nums (n : Int) (k : Nat) : strOfNums (encI n k) = encS n k := rfl
theorem encS_succ (n : Int) (k : Nat) : (⟨[toB (byteOf n k)].toArray⟩ : ByteArray) ++ encS n k = encS n (k + 1) := by
  unfold encS
  rw [ByteArray.mk_append_mk]
  rfl

/-- The number whose big-endian encoding the bytes are. -/
def vl (l : List UInt8) : Int := l.foldl (fun (a : Int) b => 256 * a + (b.toNat : Int)) 0
theorem vl_snoc (l : List UInt8) (c : UInt8) : vl (l ++ [c]) = 256 * vl l + (c.toNat : Int) := by simp [vl]
theorem vl_foldl (l : List UInt8) : ∀ a : Int, l.foldl (fun (a : Int) b => 256 * a + (b.toNat : Int)) a = a * 256 ^ l.length + vl l := by
  induction l with
  | nil => intro a; simp [vl]
  | cons c l ih =>
    intro a
    have h := ih (256 * 0 + (c.toNat : Int))
    simp only [vl, List.foldl_cons, List.length_cons, Int.pow_succ]
    rw [ih, h]
    grind
theorem vl_cons (c : UInt8) (l : List UInt8) : vl (c :: l) = (c.toNat : Int) * 256 ^ l.length + vl l := by
  have := vl_foldl l (256 * 0 + (c.toNat : Int))
  simp only [vl, List.foldl_cons] at *
  rw [this]
  simp

theorem vl_bd : ∀ l : List UInt8, 0 ≤ vl l ∧ vl l < 256 ^ l.length
  | [] => by simp [vl]
  | c :: l => by
    have ih := vl_bd l
    rw [vl_cons, List.length_cons, Int.pow_succ]
    have hc := c.toNat_lt
    have h1 := Int.mul_le_mul_of_nonneg_right (show (c.toNat : Int) ≤ 255 by omega) (show (0 : Int) ≤ 256 ^ l.length by omega)
    have h2 := Int.mul_nonneg (show (0 : Int) ≤ (c.toNat : Int) by omega) (show (0 : Int) ≤ 256 ^ l.length by omega)
    omega
theorem pow_pos (k : Nat) : (0 : Int) < 256 ^ k := Int.pow_pos (by omega)
theorem mod_step (n P : Int) (hP : 0 < P) : n % (P * 256) = (n / P % 256) * P + n % P := by
  have h1 := Int.mul_ediv_add_emod n P
  have h2 := Int.mul_ediv_add_emod (n / P) 256
  have h3 := Int.emod_nonneg n (Int.ne_of_gt hP)
  have h4 := Int.emod_lt_of_pos n hP
  have h5 := Int.emod_nonneg (n / P) (b := 256) (by omega)
  have h6 := Int.emod_lt_of_pos (n / P) (b := 256) (by omega)
  generalize hq : n / P / 256 = q at h2
  generalize hr : n / P % 256 = r at h2 h5 h6 ⊢
  generalize n % P = s at h1 h3 h4 ⊢
  have e : n = (r * P + s) + (P * 256) * q := by
    rw [← h1, ← h2]; grind
  rw [e, Int.add_mul_emod_self_left]
  apply Int.emod_eq_of_lt
  · have := Int.mul_nonneg h5 (Int.le_of_lt hP)
    omega
  · have := Int.mul_le_mul_of_nonneg_right (show r ≤ 255 by omega) (Int.le_of_lt hP)
    omega
/-- An encoding's number. -/
theorem vl_enc (n : Int) : ∀ k, vl (encL n k) = n % 256 ^ k
  | 0 => by simp [encL, encI, vl, Int.emod_one]
  | k + 1 => by
    rw [encL_succ, vl_cons, vl_enc n k, encL_length, toB_toNat (byteOf_bd n k), Int.pow_succ, mod_step n _ (pow_pos k)]
    rfl

/-- The number in two's complement of k octets. -/
def sg (v : Int) (k : Nat) : Int := if 2 * v < 256 ^ k then v else v - 256 ^ k
theorem sg_bd {v : Int} {k : Nat} (h : 0 ≤ v ∧ v < 256 ^ k) : -(256 ^ k) ≤ 2 * sg v k ∧ 2 * sg v k < 256 ^ k := by
  unfold sg
  split <;> omega
theorem even_pow (k : Nat) (hk : 1 ≤ k) : ∃ H : Int, (256 : Int) ^ k = 2 * H ∧ 0 < H := by
  obtain ⟨j, rfl⟩ : ∃ j, k = j + 1 := ⟨k - 1, by omega⟩
  refine ⟨256 ^ j * 128, by rw [Int.pow_succ]; omega, ?_⟩
  have := pow_pos j
  omega
theorem sg_step {v b : Int} {k : Nat} (hk : 1 ≤ k) (hb : 0 ≤ b ∧ b < 256) : sg (256 * v + b) (k + 1) = 256 * sg v k + b := by
  unfold sg
  obtain ⟨H, e, h0⟩ := even_pow k hk
  rw [Int.pow_succ, e]
  split <;> split <;> omega
theorem sg_one {v : Int} : sg v 1 = if v < 128 then v else v - 256 := by
  unfold sg
  have : (256 : Int) ^ 1 = 256 := by decide
  rw [this]
  split <;> split <;> omega
/-- An encoding's number in two's complement, for what has one. -/
theorem sg_mod {n : Int} {k : Nat} (h : -(256 ^ k) ≤ 2 * n ∧ 2 * n < 256 ^ k) : sg (n % 256 ^ k) k = n := by
  have hp := pow_pos k
  unfold sg
  generalize (256 : Int) ^ k = P at *
  rcases Int.lt_or_le n 0 with h0 | h0
  · have e : n % P = n + P := by
      rw [← Int.add_emod_right]
      exact Int.emod_eq_of_lt (by omega) (by omega)
    rw [e, if_neg (by omega)]
    omega
  · rw [Int.emod_eq_of_lt h0 (by omega), if_pos h.2]

theorem take_snoc (s : ByteArray) (k : Nat) (h : k < s.size) : s.data.toList.take (k + 1) = s.data.toList.take k ++ [s[k]] := by
  rw [List.take_succ_eq_append_getElem (by simpa using h)]; rfl
theorem vl_take (s : ByteArray) (k : Nat) (h : k < s.size) : vl (s.data.toList.take (k + 1)) = 256 * vl (s.data.toList.take k) + (s[k].toNat : Int) := by
  rw [take_snoc s k h, vl_snoc]

/-! ### Order -/
theorem less_enc (a b : Int) : ∀ k, Op.bytesLess (encL a k) (encL b k) = decide (a % 256 ^ k < b % 256 ^ k)
  | 0 => by simp [encL, encI, Op.bytesLess, Int.emod_one]
  | k + 1 => by
    have hA := byteOf_bd a k
    have hB := byteOf_bd b k
    have eA := mod_step a _ (pow_pos k)
    have eB := mod_step b _ (pow_pos k)
    have a0 := Int.emod_nonneg a (Int.ne_of_gt (pow_pos k))
    have a1 := Int.emod_lt_of_pos a (pow_pos k)
    have b0 := Int.emod_nonneg b (Int.ne_of_gt (pow_pos k))
    have b1 := Int.emod_lt_of_pos b (pow_pos k)
    have ih := less_enc a b k
    have hP := pow_pos k
    rw [encL_succ, encL_succ, Op.bytesLess, ih, Int.pow_succ, eA, eB]
    change ((decide (toB (byteOf a k) < toB (byteOf b k)) || toB (byteOf a k) == toB (byteOf b k) && _)) = decide (byteOf a k * _ + _ < byteOf b k * _ + _)
    have e1 : (toB (byteOf a k) < toB (byteOf b k)) = (byteOf a k < byteOf b k) := by
      rw [UInt8.lt_iff_toNat_lt]
      have := toB_toNat hA
      have := toB_toNat hB
      apply propext
      omega
    have e2 : (toB (byteOf a k) == toB (byteOf b k)) = decide (byteOf a k = byteOf b k) := by
      rw [Bool.eq_iff_iff]
      simp only [beq_iff_eq, decide_eq_true_eq]
      constructor
      · intro h
        have h1 := toB_toNat hA
        have h2 := toB_toNat hB
        rw [h] at h1
        omega
      · intro h; rw [h]
    simp only [e1, e2]
    generalize byteOf a k = x at *
    generalize byteOf b k = y at *
    generalize (256 : Int) ^ k = P at *
    generalize a % P = r at *
    generalize b % P = s at *
    rw [Bool.eq_iff_iff]
    simp only [Bool.or_eq_true, Bool.and_eq_true, decide_eq_true_eq]
    rcases Int.lt_trichotomy x y with h | h | h
    · have := Int.mul_le_mul_of_nonneg_right (show x + 1 ≤ y by omega) (Int.le_of_lt hP)
      rw [Int.add_mul] at this
      constructor
      · intro _; omega
      · intro _; exact Or.inl h
    · subst h
      constructor
      · rintro (h | ⟨_, h⟩)
        · omega
        · omega
      · intro h; exact Or.inr ⟨rfl, by omega⟩
    · have := Int.mul_le_mul_of_nonneg_right (show y + 1 ≤ x by omega) (Int.le_of_lt hP)
      rw [Int.add_mul] at this
      constructor
      · rintro (h | ⟨h, _⟩) <;> omega
      · intro h; omega
theorem eq_enc (a b : Int) (k : Nat) : (encL a k == encL b k) = decide (a % 256 ^ k = b % 256 ^ k) := by
  rw [Bool.eq_iff_iff, beq_iff_eq, decide_eq_true_eq]
  constructor
  · intro h
    rw [← vl_enc, ← vl_enc, h]
  · intro h
    suffices ∀ j, a % 256 ^ j = b % 256 ^ j → encL a j = encL b j from this k h
    intro j
    induction j with
    | zero => intro _; rfl
    | succ j ih =>
      intro h
      rw [Int.pow_succ, mod_step a _ (pow_pos j), mod_step b _ (pow_pos j)] at h
      have hA := byteOf_bd a j
      have hB := byteOf_bd b j
      have a0 := Int.emod_nonneg a (Int.ne_of_gt (pow_pos j))
      have a1 := Int.emod_lt_of_pos a (pow_pos j)
      have b0 := Int.emod_nonneg b (Int.ne_of_gt (pow_pos j))
      have b1 := Int.emod_lt_of_pos b (pow_pos j)
      have hP := pow_pos j
      have e : byteOf a j = byteOf b j ∧ a % 256 ^ j = b % 256 ^ j := by
        change byteOf a j * _ + _ = byteOf b j * _ + _ at h
        generalize byteOf a j = x at *
        generalize byteOf b j = y at *
        generalize (256 : Int) ^ j = P at *
        generalize a % P = r at *
        generalize b % P = s at *
        rcases Int.lt_trichotomy x y with g | g | g
        · have := Int.mul_le_mul_of_nonneg_right (show x + 1 ≤ y by omega) (Int.le_of_lt hP)
          rw [Int.add_mul] at this
          omega
        · subst g
          exact ⟨rfl, by omega⟩
        · have := Int.mul_le_mul_of_nonneg_right (show y + 1 ≤ x by omega) (Int.le_of_lt hP)
          rw [Int.add_mul] at this
          omega
      rw [encL_succ, encL_succ, ih e.2, e.1]

end Go.Proofs.Ytgejpbgpgklimaa
