/- Strings as bits; the register over octets; residues of sealed and marked strings; changed bits. Nothing is said of the program here. -/
import Derived.Test.YtgejpbgpgklimaaCMath
namespace Go.Proofs.Ytgejpbgpgklimaa
open Go

def bitAt (l : List UInt8) (i : Nat) : Bool := (l.getD (i / 8) 0).toNat.testBit (i % 8)
def bitsO (b : UInt8) : List Bool := (List.range 8).map fun i => b.toNat.testBit i
def bitsL (l : List UInt8) : List Bool := (List.range (8 * l.length)).map (bitAt l)
theorem bitsL_length (l) : (bitsL l).length = 8 * l.length := by simp [bitsL]
theorem bitsO_length (b) : (bitsO b).length = 8 := by simp [bitsO]
theorem bitsL_bit (l : List UInt8) (i : Nat) : (bitsL l).getD i false = bitAt l i := by
  by_cases h : i < 8 * l.length
  · simp [bitsL, List.getD, h]
  · have : l[i / 8]? = none := List.getElem?_eq_none (by omega)
    simp [bitsL, List.getD, h, bitAt, this]
theorem bitsO_bit (b : UInt8) (i : Nat) (h : i < 8) : (bitsO b).getD i false = b.toNat.testBit i := by simp [bitsO, List.getD, h]
theorem ext_bits {l m : List Bool} (hl : l.length = m.length) (h : ∀ i, i < l.length → l.getD i false = m.getD i false) : l = m := by
  apply List.ext_getElem hl
  intro i h1 h2
  have := h i h1
  simpa [List.getD, h1, h2] using this
theorem bitsL_cons (b : UInt8) (l : List UInt8) : bitsL (b :: l) = bitsO b ++ bitsL l := by
  apply ext_bits
  · simp [bitsL_length, bitsO_length]; omega
  · intro i hi
    rw [bitsL_bit]
    by_cases h : i < 8
    · have e : (bitsO b ++ bitsL l).getD i false = (bitsO b).getD i false := by
        simp only [List.getD, List.getElem?_append, bitsO_length, h, if_true]
      rw [e, bitsO_bit b i h]
      unfold bitAt
      rw [show i / 8 = 0 by omega, show i % 8 = i by omega]
      rfl
    · have e : (bitsO b ++ bitsL l).getD i false = (bitsL l).getD (i - 8) false := by
        simp only [List.getD, List.getElem?_append, bitsO_length, h, if_false]
      rw [e, bitsL_bit]
      unfold bitAt
      rw [show i / 8 = (i - 8) / 8 + 1 by omega, show (i - 8) % 8 = i % 8 by omega]
      rfl
theorem bitsL_append (l m : List UInt8) : bitsL (l ++ m) = bitsL l ++ bitsL m := by
  induction l with
  | nil => simp [bitsL]
  | cons b l ih => rw [List.cons_append, bitsL_cons, bitsL_cons, ih, List.append_assoc]
theorem byte_ext {a b : UInt8} (h : ∀ i, i < 8 → a.toNat.testBit i = b.toNat.testBit i) : a = b := by
  apply UInt8.toNat_inj.1
  apply Nat.eq_of_testBit_eq
  intro i
  by_cases hi : i < 8
  · exact h i hi
  · have ha : a.toNat < 2 ^ i := Nat.lt_of_lt_of_le a.toNat_lt (Nat.pow_le_pow_right (by omega) (by omega))
    have hb : b.toNat < 2 ^ i := Nat.lt_of_lt_of_le b.toNat_lt (Nat.pow_le_pow_right (by omega) (by omega))
    rw [Nat.testBit_lt_two_pow ha, Nat.testBit_lt_two_pow hb]
theorem bits_ext {l m : List UInt8} (hl : l.length = m.length) (h : ∀ i, i < 8 * l.length → bitAt l i = bitAt m i) : l = m := by
  apply List.ext_getElem hl
  intro j h1 h2
  apply byte_ext
  intro i hi
  have := h (8 * j + i) (by omega)
  unfold bitAt at this
  rw [show (8 * j + i) / 8 = j by omega, show (8 * j + i) % 8 = i by omega] at this
  simpa [List.getD, h1, h2] using this

/-! ### The register over octets -/
def oct (c : BitVec 32) (b : UInt8) : BitVec 32 := regB c (bitsO b)
def reg (c : BitVec 32) (l : List UInt8) : BitVec 32 := l.foldl oct c
theorem reg_bits : ∀ (l : List UInt8) (c), reg c l = regB c (bitsL l)
  | [], c => rfl
  | b :: l, c => by rw [bitsL_cons, regB_append, ← reg_bits l]; rfl
theorem reg_append (c l m) : reg c (l ++ m) = reg (reg c l) m := by simp [reg]
theorem reg_snoc (c l b) : reg c (l ++ [b]) = oct (reg c l) b := by simp [reg]
def ones : BitVec 32 := ~~~0#32
theorem not_eq (x : BitVec 32) : ~~~x = x ^^^ ones := by
  apply BitVec.eq_of_getLsbD_eq
  intro i hi
  unfold ones
  rw [BitVec.getLsbD_xor, BitVec.getLsbD_not, BitVec.getLsbD_not, BitVec.getLsbD_ofNat]
  simp [hi]
/-- The CRC of what follows a string whose CRC is c. -/
def extB (c : BitVec 32) (l : List UInt8) : BitVec 32 := ~~~(reg (~~~c) l)
theorem extB_nil (c) : extB c [] = c := by unfold extB reg; simp
theorem extB_append (c l m) : extB c (l ++ m) = extB (extB c l) m := by unfold extB; rw [reg_append, BitVec.not_not]

/-! ### Check octets -/
/-- An integer of 32 bits as a value. -/
def cv (x : BitVec 32) : Int := (x.toNat : Int)
theorem cv_bd (x) : 0 ≤ cv x ∧ cv x < 4294967296 := by unfold cv; have := x.isLt; omega
theorem cv_inj {x y} (h : cv x = cv y) : x = y := by
  unfold cv at h
  exact BitVec.eq_of_toNat_eq (by omega)
def bvOf (c : Int) : BitVec 32 := BitVec.ofInt 32 c
theorem cv_bvOf {c : Int} (h : 0 ≤ c ∧ c < 4294967296) : cv (bvOf c) = c := by
  unfold cv bvOf
  rw [BitVec.toNat_ofInt]
  omega
theorem bvOf_cv (x) : bvOf (cv x) = x := cv_inj (cv_bvOf (cv_bd x))
/-- The octet of c that begins at bit k. -/
def octAt (c : Int) (k : Nat) : Int := c / 2 ^ k % 256
theorem octAt_bd (c k) : 0 ≤ octAt c k ∧ octAt c k < 256 := by unfold octAt; omega
theorem octAt_bit (x : BitVec 32) (k i : Nat) (hi : i < 8) : (toB (octAt (cv x) k)).toNat.testBit i = x.getLsbD (k + i) := by
  have e : ((toB (octAt (cv x) k)).toNat : Int) = ((x.toNat / 2 ^ k % 256 : Nat) : Int) := by
    rw [toB_toNat (octAt_bd _ _)]
    unfold octAt cv
    simp
  have e' : (toB (octAt (cv x) k)).toNat = x.toNat / 2 ^ k % 2 ^ 8 := by omega
  rw [e', Nat.testBit_mod_two_pow, Nat.testBit_div_two_pow, BitVec.getLsbD, Nat.add_comm]
  simp [hi]
def octI (c : Int) : List Int := [octAt c 0, octAt c 8, octAt c 16, octAt c 24]
def octL (c : Int) : List UInt8 := (octI c).map toB
theorem octL_length (c) : (octL c).length = 4 := rfl
theorem octL_bit (x : BitVec 32) (i : Nat) (hi : i < 32) : bitAt (octL (cv x)) i = x.getLsbD i := by
  unfold bitAt
  have h : i / 8 = 0 ∨ i / 8 = 1 ∨ i / 8 = 2 ∨ i / 8 = 3 := by omega
  rcases h with h | h | h | h <;> rw [h]
  · exact (octAt_bit x 0 (i % 8) (by omega)).trans (by congr 1; omega)
  · exact (octAt_bit x 8 (i % 8) (by omega)).trans (by congr 1; omega)
  · exact (octAt_bit x 16 (i % 8) (by omega)).trans (by congr 1; omega)
  · exact (octAt_bit x 24 (i % 8) (by omega)).trans (by congr 1; omega)
theorem bvL_bits (q : List UInt8) (i : Nat) (hi : i < 32) : (bvL (bitsL q)).getLsbD i = bitAt q i := by
  rw [bvL_bit _ _ hi, bitsL_bit]
theorem bvL_oct (x : BitVec 32) : bvL (bitsL (octL (cv x))) = x := by
  apply BitVec.eq_of_getLsbD_eq
  intro i hi
  rw [bvL_bits _ _ hi, octL_bit x i hi]
theorem oct_bvL {q : List UInt8} (hq : q.length = 4) : octL (cv (bvL (bitsL q))) = q := by
  apply bits_ext (by rw [octL_length, hq])
  intro i hi
  rw [octL_length] at hi
  rw [octL_bit _ i (by omega), bvL_bits q i (by omega)]
theorem reg_four (c : BitVec 32) {q : List UInt8} (hq : q.length = 4) : reg c q = stp 32 (c ^^^ bvL (bitsL q)) := by
  rw [reg_bits, regB_word _ _ (by rw [bitsL_length]; omega), bitsL_length, hq]

/-! ### Sealed and marked strings -/
/-- The check octets of the CRC of l, changed. -/
def chk (l : List UInt8) (g : BitVec 32) : List UInt8 := octL (cv (extB 0#32 l ^^^ g))
def goodB (l : List UInt8) (g : BitVec 32) : Bool := decide (4 ≤ l.length ∧ l.drop (l.length - 4) = chk (l.take (l.length - 4)) g)
theorem extB_zero (l) : extB 0#32 l = reg ones l ^^^ ones := by unfold extB; rw [← not_eq]; rfl
theorem xor_cancel (a b : BitVec 32) : a ^^^ (a ^^^ b) = b := by rw [← BitVec.xor_assoc, BitVec.xor_self, BitVec.zero_xor]
theorem good_parts (m q : List UInt8) (g : BitVec 32) (hq : q.length = 4) : q = chk m g ↔ reg ones (m ++ q) = stp 32 (ones ^^^ g) := by
  rw [reg_append, reg_four _ hq]
  unfold chk
  rw [extB_zero]
  constructor
  · intro h
    rw [h, bvL_oct, BitVec.xor_assoc, xor_cancel]
  · intro h
    have h2 := stp_inj h
    rw [← oct_bvL hq, BitVec.xor_assoc, ← h2, xor_cancel]
theorem good_iff (l : List UInt8) (g : BitVec 32) : goodB l g = true ↔ 4 ≤ l.length ∧ reg ones l = stp 32 (ones ^^^ g) := by
  unfold goodB
  rw [decide_eq_true_iff]
  constructor
  · rintro ⟨h, e⟩
    refine ⟨h, ?_⟩
    have := (good_parts _ _ g (by rw [List.length_drop]; omega)).1 e
    rwa [List.take_append_drop] at this
  · rintro ⟨h, e⟩
    refine ⟨h, (good_parts _ _ g (by rw [List.length_drop]; omega)).2 ?_⟩
    rwa [List.take_append_drop]
theorem good_chk (l : List UInt8) (g : BitVec 32) : goodB (l ++ chk l g) g = true := by
  rw [good_iff]
  exact ⟨by simp [chk, octL_length], (good_parts l _ g rfl).1 rfl⟩
theorem good_other (l : List UInt8) {g h : BitVec 32} (hne : g ≠ h) : goodB (l ++ chk l g) h = false := by
  rw [Bool.eq_false_iff]
  intro e
  have h1 := ((good_iff _ _).1 e).2
  have h2 := ((good_iff _ _).1 (good_chk l g)).2
  have h3 := stp_inj (h1.symm.trans h2)
  apply hne
  have h4 : ones ^^^ (ones ^^^ g) = ones ^^^ (ones ^^^ h) := by rw [h3]
  rwa [xor_cancel, xor_cancel] at h4

/-! ### Changed bits -/
/-- The bits in which u and t differ. -/
def diff (t u : List UInt8) : List Bool := List.zipWith xor (bitsL u) (bitsL t)
theorem zip_bit {l m : List Bool} (h : l.length = m.length) (i : Nat) : (List.zipWith xor l m).getD i false = (l.getD i false ^^ m.getD i false) := by
  by_cases hi : i < l.length
  · simp [List.getD, List.getElem?_zipWith, hi, show i < m.length by omega]
  · simp [List.getD, List.getElem?_zipWith, List.getElem?_eq_none (show l.length ≤ i by omega), List.getElem?_eq_none (show m.length ≤ i by omega)]
theorem diff_bit {t u : List UInt8} (h : u.length = t.length) (i : Nat) : (diff t u).getD i false = (bitAt u i ^^ bitAt t i) := by
  unfold diff
  rw [zip_bit (by rw [bitsL_length, bitsL_length, h]), bitsL_bit, bitsL_bit]
theorem diff_length {t u : List UInt8} (h : u.length = t.length) : (diff t u).length = 8 * t.length := by
  unfold diff
  rw [List.length_zipWith, bitsL_length, bitsL_length, h, Nat.min_self]
theorem reg_diff {t u : List UInt8} (h : u.length = t.length) (c : BitVec 32) : reg c u ^^^ reg c t = regB 0#32 (diff t u) := by
  rw [reg_bits, reg_bits, ← regB_xor _ _ _ _ (by rw [bitsL_length, bitsL_length, h]), BitVec.xor_self]
  rfl
theorem changed_not_good {t u : List UInt8} (g : BitVec 32) (h : u.length = t.length) (hd : regB 0#32 (diff t u) ≠ 0#32) (hg : goodB t g = true) : goodB u g = false := by
  rw [Bool.eq_false_iff]
  intro e
  have h1 := ((good_iff _ _).1 e).2
  have h2 := ((good_iff _ _).1 hg).2
  apply hd
  rw [← reg_diff h ones, h1, h2, BitVec.xor_self]
theorem burst_not_good {t u : List UInt8} {a : Nat} (g : BitVec 32) (h : u.length = t.length) (h1 : ∀ i, i < a ∨ a + 32 ≤ i → bitAt u i = bitAt t i) (hne : u ≠ t) (hg : goodB t g = true) : goodB u g = false := by
  refine changed_not_good g h (burst (a := a) ?_ ?_ ?_) hg
  · intro i hi; rw [diff_bit h, h1 i (Or.inl hi)]; simp
  · intro i hi; rw [diff_bit h, h1 i (Or.inr hi)]; simp
  · apply Classical.byContradiction
    intro hno
    apply hne
    refine bits_ext h fun i _ => ?_
    have : ¬ (diff t u).getD i false = true := fun e => hno ⟨i, e⟩
    rw [diff_bit h] at this
    cases hu : bitAt u i <;> cases ht : bitAt t i <;> simp [hu, ht] at this ⊢
/-- One bit changed. -/
theorem one_not_good {t u : List UInt8} {a : Nat} (g : BitVec 32) (h : u.length = t.length) (ha : a < 8 * t.length) (h1 : ∀ i, bitAt u i = (bitAt t i ^^ decide (i = a))) (hg : goodB t g = true) : goodB u g = false := by
  refine changed_not_good g h ?_ hg
  have hd : ∀ i, (diff t u).getD i false = decide (i = a) := by
    intro i
    rw [diff_bit h, h1]
    cases bitAt t i <;> simp
  rw [single (by rw [diff_length h]; exact ha) hd]
  intro e
  exact absurd (stp_ker _ e) (by decide)
/-- Two bits changed. -/
theorem two_not_good {t u : List UInt8} {a b : Nat} (g : BitVec 32) (h : u.length = t.length) (hab : a < b) (hb : b < 8 * t.length) (hn : ∀ d, d < 1632 → stp d (step 1#32) ≠ 1#32) (hl : 8 * t.length ≤ 1632)
    (h1 : ∀ i, bitAt u i = ((bitAt t i ^^ decide (i = a)) ^^ decide (i = b))) (hg : goodB t g = true) : goodB u g = false := by
  refine changed_not_good g h ?_ hg
  have hd : ∀ i, (diff t u).getD i false = (decide (i = a) ^^ decide (i = b)) := by
    intro i
    rw [diff_bit h, h1]
    cases bitAt t i <;> cases decide (i = a) <;> cases decide (i = b) <;> rfl
  let A : List Bool := (List.range (8 * t.length)).map fun i => decide (i = a)
  let B : List Bool := (List.range (8 * t.length)).map fun i => decide (i = b)
  have lA : A.length = 8 * t.length := by simp [A]
  have lB : B.length = 8 * t.length := by simp [B]
  have dA : ∀ i, A.getD i false = decide (i = a) := by
    intro i
    by_cases hi : i < 8 * t.length
    · simp [A, List.getD, hi]
    · rw [List.getD, List.getElem?_eq_none (by omega)]
      simp; omega
  have dB : ∀ i, B.getD i false = decide (i = b) := by
    intro i
    by_cases hi : i < 8 * t.length
    · simp [B, List.getD, hi]
    · rw [List.getD, List.getElem?_eq_none (by omega)]
      simp; omega
  have e : diff t u = List.zipWith xor A B := by
    apply ext_bits
    · rw [diff_length h, List.length_zipWith, lA, lB, Nat.min_self]
    · intro i _
      rw [hd, zip_bit (by rw [lA, lB]), dA, dB]
  have hx := regB_xor A B 0#32 0#32 (by rw [lA, lB])
  rw [BitVec.xor_self] at hx
  rw [e, hx, single (by omega) dA, single (by omega) dB, lA, lB, show 8 * t.length - a = (b - a) + (8 * t.length - b) by omega, stp_add, ← stp_xor]
  intro h0
  have h2 := (xor_zero_iff _ _).1 (stp_ker _ h0)
  rw [show b - a = (b - a - 1) + 1 by omega, stp_succ] at h2
  exact hn _ (by omega) h2

/-! ### Three strings -/
theorem crc_three {x a b c : List UInt8} (ha : a.length = x.length) (hb : b.length = x.length) (hc : c.length = x.length) (h : ∀ i, bitAt x i = ((bitAt a i ^^ bitAt b i) ^^ bitAt c i)) :
    extB 0#32 x = (extB 0#32 a ^^^ extB 0#32 b) ^^^ extB 0#32 c := by
  unfold extB
  rw [show ~~~(reg (~~~0#32) a) ^^^ ~~~(reg (~~~0#32) b) = ~~~(~~~(~~~(reg (~~~0#32) a) ^^^ ~~~(reg (~~~0#32) b))) by rw [BitVec.not_not]]
  have e : bitsL x = List.zipWith xor (List.zipWith xor (bitsL a) (bitsL b)) (bitsL c) := by
    apply ext_bits
    · simp [List.length_zipWith, bitsL_length, ha, hb, hc]
    · intro i _
      rw [bitsL_bit, zip_bit (by simp [List.length_zipWith, bitsL_length, ha, hb, hc]), zip_bit (by simp [bitsL_length, ha, hb]), bitsL_bit, bitsL_bit, bitsL_bit, h]
  have r : reg (~~~0#32) x = (reg (~~~0#32) a ^^^ reg (~~~0#32) b) ^^^ reg (~~~0#32) c := by
    rw [reg_bits, reg_bits, reg_bits, reg_bits, e, ← regB_xor _ _ _ _ (by simp [bitsL_length, ha, hb]), ← regB_xor _ _ _ _ (by simp [List.length_zipWith, bitsL_length, ha, hb, hc])]
    congr 1
  rw [r, BitVec.not_not]
  generalize reg (~~~0#32) a = A
  generalize reg (~~~0#32) b = B
  generalize reg (~~~0#32) c = C
  apply BitVec.eq_of_getLsbD_eq
  intro i hi
  simp only [BitVec.getLsbD_not, BitVec.getLsbD_xor, hi, decide_true, Bool.true_and]
  cases A.getLsbD i <;> cases B.getLsbD i <;> cases C.getLsbD i <;> rfl

/-! ### The table -/
theorem stp_shift : ∀ (k : Nat) (d : BitVec 32), (∀ i, i < k → d.getLsbD i = false) → stp k d = d >>> k
  | 0, d, _ => by simp [stp]
  | k + 1, d, h => by
    have h0 := h 0 (by omega)
    have e : step d = d >>> 1 := by unfold step; rw [h0]; simp
    rw [stp_succ, e, stp_shift k _ (fun i hi => by rw [BitVec.getLsbD_ushiftRight]; exact h (1 + i) (by omega))]
    apply BitVec.eq_of_getLsbD_eq
    intro i hi
    simp only [BitVec.getLsbD_ushiftRight]
    congr 1; omega
/-- The number of the table's entry. -/
def tabN (c : BitVec 32) (b : UInt8) : Nat := (c.toNat % 256) ^^^ b.toNat
def tabV (j : Nat) : BitVec 32 := stp 8 (BitVec.ofNat 32 j)
theorem xor_lt_256 {a b : Nat} (ha : a < 256) (hb : b < 256) : a ^^^ b < 256 := Nat.xor_lt_two_pow (n := 8) ha hb
theorem tabN_lt (c b) : tabN c b < 256 := xor_lt_256 (Nat.mod_lt _ (by omega)) b.toNat_lt
theorem oct_tab (c : BitVec 32) (b : UInt8) : oct c b = (c >>> 8) ^^^ tabV (tabN c b) := by
  unfold oct tabV
  rw [regB_word _ _ (by rw [bitsO_length]; omega), bitsO_length]
  have hb : ∀ i, i < 32 → (bvL (bitsO b)).getLsbD i = (decide (i < 8) && b.toNat.testBit i) := by
    intro i hi
    rw [bvL_bit _ _ hi]
    by_cases h8 : i < 8
    · rw [bitsO_bit b i h8]; simp [h8]
    · rw [getLsbD_getD_len (by rw [bitsO_length]; omega)]; simp [h8]
  have e : c ^^^ bvL (bitsO b) = (c &&& ~~~255#32) ^^^ BitVec.ofNat 32 (tabN c b) := by
    apply BitVec.eq_of_getLsbD_eq
    intro i hi
    have h255 : (255#32).getLsbD i = decide (i < 8) := by
      rw [BitVec.getLsbD_ofNat, show (255 : Nat) = 2 ^ 8 - 1 by decide, Nat.testBit_two_pow_sub_one]
      simp [hi]
    rw [BitVec.getLsbD_xor, hb i hi, BitVec.getLsbD_xor, BitVec.getLsbD_and, BitVec.getLsbD_not, h255, BitVec.getLsbD_ofNat]
    unfold tabN
    rw [Nat.testBit_xor, show (256 : Nat) = 2 ^ 8 by decide, Nat.testBit_mod_two_pow, ← BitVec.getLsbD]
    by_cases h8 : i < 8
    · simp [hi, h8]
    · have hb : b.toNat < 2 ^ i := Nat.lt_of_lt_of_le b.toNat_lt (Nat.pow_le_pow_right (by omega) (by omega : 8 ≤ i))
      simp [hi, h8, Nat.testBit_lt_two_pow hb]
  rw [e, stp_xor, stp_shift 8 (c &&& ~~~255#32)]
  · congr 1
    apply BitVec.eq_of_getLsbD_eq
    intro i hi
    rw [BitVec.getLsbD_ushiftRight, BitVec.getLsbD_ushiftRight, BitVec.getLsbD_and, BitVec.getLsbD_not, BitVec.getLsbD_ofNat, show (255 : Nat) = 2 ^ 8 - 1 by decide, Nat.testBit_two_pow_sub_one]
    by_cases h : 8 + i < 32
    · simp [h]
    · rw [BitVec.getLsbD_of_ge c _ (by omega)]; simp
  · intro i hi
    rw [BitVec.getLsbD_and, BitVec.getLsbD_not, BitVec.getLsbD_ofNat, show (255 : Nat) = 2 ^ 8 - 1 by decide, Nat.testBit_two_pow_sub_one]
    simp [hi]
end Go.Proofs.Ytgejpbgpgklimaa
