/- Changing bits of a string, and rows of bytes in memory. Nothing is said of the program here. -/
import Derived.Test.YtgejpbgpgklimaaCGood
import Derived.Lib.ConvBytes
namespace Go.Proofs.Ytgejpbgpgklimaa
open Go Go.RowKit

/-- An octet of which bit i is changed; a string of which bit p is. -/
def fb (b : UInt8) (i : Nat) : UInt8 := UInt8.ofNat (b.toNat ^^^ 2 ^ i)
theorem fb_toNat (b : UInt8) (i : Nat) (h : i < 8) : (fb b i).toNat = b.toNat ^^^ 2 ^ i := by
  unfold fb
  rw [UInt8.toNat_ofNat']
  apply Nat.mod_eq_of_lt
  exact Nat.xor_lt_two_pow (n := 8) b.toNat_lt (Nat.pow_lt_pow_right (by omega) h)
def flip1 (l : List UInt8) (p : Nat) : List UInt8 := l.set (p / 8) (fb (l.getD (p / 8) 0) (p % 8))
def flipN (l : List UInt8) (a pat : Nat) : Nat → List UInt8
  | 0 => l
  | k + 1 => if pat.testBit k = true ∧ a + k < 8 * l.length then flip1 (flipN l a pat k) (a + k) else flipN l a pat k
theorem flip1_length (l p) : (flip1 l p).length = l.length := by simp [flip1]
theorem flipN_length (l a pat) : ∀ k, (flipN l a pat k).length = l.length
  | 0 => rfl
  | k + 1 => by
    unfold flipN
    split
    · rw [flip1_length, flipN_length l a pat k]
    · exact flipN_length l a pat k
theorem flip1_bit (l : List UInt8) (p i : Nat) (hp : p < 8 * l.length) : bitAt (flip1 l p) i = (bitAt l i ^^ decide (i = p)) := by
  unfold bitAt flip1
  have hp8 : p / 8 < l.length := by omega
  by_cases h : i / 8 = p / 8
  · rw [h]
    have e : (l.set (p / 8) (fb (l.getD (p / 8) 0) (p % 8))).getD (p / 8) 0 = fb (l.getD (p / 8) 0) (p % 8) := by simp [List.getD, hp8]
    rw [e, fb_toNat _ _ (by omega), Nat.testBit_xor, Nat.testBit_two_pow]
    congr 1
    apply decide_eq_decide.2
    omega
  · have e : (l.set (p / 8) (fb (l.getD (p / 8) 0) (p % 8))).getD (i / 8) 0 = l.getD (i / 8) 0 := by simp [List.getD, List.getElem?_set_ne (Ne.symm h)]
    rw [e, decide_eq_false (by intro e; exact h (by rw [e]))]
    simp
theorem flipN_bit (l : List UInt8) (a pat : Nat) : ∀ (k i : Nat), bitAt (flipN l a pat k) i = (bitAt l i ^^ decide (a ≤ i ∧ i < a + k ∧ i < 8 * l.length ∧ pat.testBit (i - a) = true))
  | 0, i => by
    rw [decide_eq_false (by omega)]
    simp [flipN]
  | k + 1, i => by
    have ih := flipN_bit l a pat k i
    unfold flipN
    by_cases h : pat.testBit k = true ∧ a + k < 8 * l.length
    · rw [if_pos h, flip1_bit _ _ _ (by rw [flipN_length]; exact h.2), ih]
      by_cases h1 : i = a + k
      · subst h1
        rw [decide_eq_false (by omega), decide_eq_true rfl, decide_eq_true ⟨by omega, by omega, h.2, by rw [show a + k - a = k by omega]; exact h.1⟩]
        simp
      · rw [decide_eq_false h1, Bool.xor_false]
        congr 1
        apply decide_eq_decide.2
        constructor <;> rintro ⟨x1, x2, x3, x4⟩ <;> exact ⟨x1, by omega, x3, x4⟩
    · rw [if_neg h, ih]
      congr 1
      apply decide_eq_decide.2
      constructor
      · rintro ⟨x1, x2, x3, x4⟩; exact ⟨x1, by omega, x3, x4⟩
      · rintro ⟨x1, x2, x3, x4⟩
        refine ⟨x1, ?_, x3, x4⟩
        apply Classical.byContradiction
        intro hn
        have : i = a + k := by omega
        subst this
        rw [show a + k - a = k by omega] at x4
        exact h ⟨x4, x3⟩
/-- What Flip returns. -/
def flipS (s : ByteArray) (a pat : Nat) : ByteArray := ⟨(flipN s.data.toList a pat 32).toArray⟩
theorem flipS_list (s a pat) : (flipS s a pat).data.toList = flipN s.data.toList a pat 32 := rfl
theorem flipS_size (s a pat) : (flipS s a pat).size = s.size := flipN_length _ _ _ _

/-- A row of bytes that may be written, at the head of block b. -/
structure BytesAt (w : World) (b : Nat) (l : List UInt8) : Prop where
  cell : ∀ j, j < l.length → w.cell? ⟨b, j, none⟩ = some (.int .u8 ((l.getD j 0).toNat : Int))
  free : ∀ j, j < l.length → w.frozen? ⟨b, j, none⟩ = false
theorem BytesAt.drew {w : World} {b : Nat} {l : List UInt8} (h : BytesAt w b l) : BytesAt w.drew b l := ⟨h.cell, h.free⟩
theorem BytesAt.stored {w : World} {b : Nat} {l : List UInt8} (h : BytesAt w b l) (j : Nat) (x : UInt8) (hj : j < l.length) : BytesAt (w.setCell ⟨b, j, none⟩ (.int .u8 (x.toNat : Int))) b (l.set j x) := by
  constructor
  · intro i hi
    rw [List.length_set] at hi
    by_cases e : i = j
    · subst e
      rw [World.cell?_setCell_same w _ _ (h.cell i hi)]
      simp [List.getD, hi]
    · rw [World.cell?_setCell_other w _ _ _ (by intro he; apply e; exact (congrArg Addr.off he).symm), h.cell i hi]
      simp [List.getD, List.getElem?_set_ne (Ne.symm e)]
  · intro i hi
    rw [List.length_set] at hi
    rw [World.frozen?_setCell, h.free i hi]
theorem bytes_new (w : World) (e : TypeId) (s : ByteArray) : BytesAt (Lib.bytesWorld w e s) w.heap.size s.data.toList := by
  constructor
  · intro j hj
    exact Lib.bytesWorld_cell w e s j hj
  · intro j hj
    have hj' : j < s.size := hj
    simp only [World.frozen?, Lib.bytesWorld_at_new]
    have hsz : s.size ≤ (Lib.bytesCells w e s).size := by
      unfold Lib.bytesCells
      rw [Array.size_append, Array.size_map]
      exact Nat.le_add_right _ _
    have : ¬ (Lib.bytesCells w e s).size ≤ j := by omega
    simp [this]
theorem bytes_keep (w : World) (e : TypeId) (s : ByteArray) : Keep w (Lib.bytesWorld w e s) := by
  refine ⟨?_, ?_, by rw [Lib.bytesWorld_size]; omega, fun k hk => Lib.bytesWorld_at_old w e s k hk⟩
  all_goals
    unfold Lib.bytesWorld World.freeze
    rw [if_neg (by decide)]
    rfl
end Go.Proofs.Ytgejpbgpgklimaa
