/- The CRC's register over bits: linear, injective; sealed and marked strings by their residues; what a change of bits does. Nothing is said of the program here. -/
import Derived.Test.YtgejpbgpgklimaaWMath
namespace Go.Proofs.Ytgejpbgpgklimaa
open Go

/-- The polynomial. -/
def poly : BitVec 32 := 0xEDB88320#32
/-- One step of the register without a bit, and with bit x. -/
def step (c : BitVec 32) : BitVec 32 := (c >>> 1) ^^^ (if c.getLsbD 0 then poly else 0#32)
def step1 (c : BitVec 32) (x : Bool) : BitVec 32 := (c >>> 1) ^^^ (if c.getLsbD 0 ^^ x then poly else 0#32)
def stp : Nat → BitVec 32 → BitVec 32
  | 0, c => c
  | k + 1, c => stp k (step c)
def regB (c : BitVec 32) (l : List Bool) : BitVec 32 := l.foldl step1 c
theorem regB_nil (c) : regB c [] = c := rfl
theorem regB_cons (c x l) : regB c (x :: l) = regB (step1 c x) l := rfl
theorem regB_append (c l m) : regB c (l ++ m) = regB (regB c l) m := by simp [regB]
theorem stp_succ (k c) : stp (k + 1) c = stp k (step c) := rfl
theorem stp_add (j : Nat) : ∀ k c, stp (j + k) c = stp k (stp j c) := by
  induction j with
  | zero => intro k c; simp [stp]
  | succ j ih => intro k c; rw [show j + 1 + k = (j + k) + 1 by omega, stp_succ, ih, stp_succ]
theorem stp_snoc (k c) : stp (k + 1) c = step (stp k c) := by rw [stp_add k 1]; rfl

/-! ### Linear -/
theorem xor_ite (p q : Bool) : (if p ^^ q then poly else 0#32) = (if p then poly else 0#32) ^^^ (if q then poly else 0#32) := by
  cases p <;> cases q <;> simp
theorem shr_xor (a b : BitVec 32) (n : Nat) : (a ^^^ b) >>> n = (a >>> n) ^^^ (b >>> n) := by
  apply BitVec.eq_of_getLsbD_eq
  intro i hi
  simp
theorem xor_four (a b c d : BitVec 32) : (a ^^^ b) ^^^ (c ^^^ d) = (a ^^^ c) ^^^ (b ^^^ d) := by
  apply BitVec.eq_of_getLsbD_eq
  intro i hi
  simp only [BitVec.getLsbD_xor]
  cases a.getLsbD i <;> cases b.getLsbD i <;> cases c.getLsbD i <;> cases d.getLsbD i <;> rfl
theorem step1_xor (a b x y) : step1 (a ^^^ b) (x ^^ y) = step1 a x ^^^ step1 b y := by
  unfold step1
  rw [xor_four, ← shr_xor, ← xor_ite, BitVec.getLsbD_xor]
  congr 2
  cases a.getLsbD 0 <;> cases b.getLsbD 0 <;> cases x <;> cases y <;> rfl
theorem step_eq (c) : step c = step1 c false := by unfold step step1; simp
theorem step_xor (a b) : step (a ^^^ b) = step a ^^^ step b := by
  rw [step_eq, step_eq, step_eq, ← step1_xor]; rfl
theorem stp_xor : ∀ k a b, stp k (a ^^^ b) = stp k a ^^^ stp k b
  | 0, _, _ => rfl
  | k + 1, a, b => by rw [stp_succ, step_xor, stp_xor k]; rfl
theorem regB_xor : ∀ (l m : List Bool) (a b), l.length = m.length → regB (a ^^^ b) (List.zipWith xor l m) = regB a l ^^^ regB b m
  | [], [], a, b, _ => rfl
  | x :: l, y :: m, a, b, h => by
    rw [List.zipWith_cons_cons, regB_cons, regB_cons, regB_cons, step1_xor, regB_xor l m _ _ (by simpa using h)]
theorem xor_zero_iff (a b : BitVec 32) : a ^^^ b = 0#32 ↔ a = b := by
  constructor
  · intro h
    have e : (a ^^^ b) ^^^ b = 0#32 ^^^ b := by rw [h]
    rwa [BitVec.xor_assoc, BitVec.xor_self, BitVec.xor_zero, BitVec.zero_xor] at e
  · rintro rfl; exact BitVec.xor_self

/-! ### Injective -/
theorem step_zero : step 0#32 = 0#32 := by decide
theorem stp_zero : ∀ k, stp k 0#32 = 0#32
  | 0 => rfl
  | k + 1 => by rw [stp_succ, step_zero, stp_zero k]
theorem step_ker {c : BitVec 32} (h : step c = 0#32) : c = 0#32 := by
  have hb : ∀ i, (step c).getLsbD i = false := fun i => by rw [h]; simp
  have h31 : c.getLsbD 0 = false := by
    have := hb 31
    unfold step at this
    cases h0 : c.getLsbD 0 with
    | false => rfl
    | true =>
      rw [h0] at this
      simp [poly] at this
  apply BitVec.eq_of_getLsbD_eq
  intro i hi
  cases i with
  | zero => rw [h31]; simp
  | succ i =>
    have := hb i
    unfold step at this
    rw [h31] at this
    simp at this
    rw [Nat.add_comm]
    simpa using this
theorem stp_ker : ∀ k {c}, stp k c = 0#32 → c = 0#32
  | 0, _, h => h
  | k + 1, _, h => step_ker (stp_ker k h)
theorem stp_inj {k a b} (h : stp k a = stp k b) : a = b := by
  rw [← xor_zero_iff] at h ⊢
  rw [← stp_xor] at h
  exact stp_ker k h

/-! ### A word of at most 32 bits -/
def bvL : List Bool → BitVec 32
  | [] => 0#32
  | x :: l => (bvL l).shiftConcat x
theorem bvL_bit : ∀ (l : List Bool) (i : Nat), i < 32 → (bvL l).getLsbD i = l.getD i false
  | [], i, _ => by simp [bvL]
  | x :: l, i, h => by
    unfold bvL
    rw [BitVec.getLsbD_shiftConcat]
    cases i with
    | zero => simp
    | succ i =>
      have := bvL_bit l i (by omega)
      simp [this, h]
theorem getLsbD_getD_len {l : List Bool} {i : Nat} (h : l.length ≤ i) : l.getD i false = false := by
  simp [List.getD, List.getElem?_eq_none h]
theorem step_word (c : BitVec 32) (x : Bool) (l : List Bool) (h : l.length ≤ 31) : step (c ^^^ bvL (x :: l)) = step1 c x ^^^ bvL l := by
  have h0 : (c ^^^ bvL (x :: l)).getLsbD 0 = (c.getLsbD 0 ^^ x) := by
    rw [BitVec.getLsbD_xor, bvL_bit _ _ (by omega)]; rfl
  have hs : bvL (x :: l) >>> 1 = bvL l := by
    apply BitVec.eq_of_getLsbD_eq
    intro i hi
    rw [BitVec.getLsbD_ushiftRight, bvL_bit l i hi]
    by_cases h1 : 1 + i < 32
    · rw [bvL_bit _ _ h1, Nat.add_comm]; rfl
    · rw [BitVec.getLsbD_of_ge _ _ (by omega), getLsbD_getD_len (by omega)]
  unfold step step1
  rw [h0, shr_xor, hs, BitVec.xor_assoc, BitVec.xor_assoc, BitVec.xor_comm (bvL l)]
theorem regB_word : ∀ (l : List Bool) (c), l.length ≤ 32 → regB c l = stp l.length (c ^^^ bvL l)
  | [], c, _ => by simp [regB, stp, bvL]
  | x :: l, c, h => by
    rw [regB_cons, regB_word l _ (by simp at h; omega), List.length_cons, stp_succ, step_word c x l (by simpa using h)]
theorem bvL_zero {l : List Bool} (h : ∀ i, l.getD i false = false) : bvL l = 0#32 := by
  apply BitVec.eq_of_getLsbD_eq
  intro i hi
  rw [bvL_bit l i hi, h]; simp
theorem regB_zeros : ∀ (l : List Bool) (c), (∀ i, l.getD i false = false) → regB c l = stp l.length c
  | [], c, _ => rfl
  | x :: l, c, h => by
    have hx : x = false := h 0
    subst hx
    rw [regB_cons, List.length_cons, stp_succ, step_eq]
    exact regB_zeros l _ (fun i => by simpa using h (i + 1))

/-- Bits of which only some of 32 consecutive ones are set, at least one of them: the register isn't 0 behind them. -/
theorem burst {D : List Bool} {a : Nat} (h1 : ∀ i, i < a → D.getD i false = false) (h2 : ∀ i, a + 32 ≤ i → D.getD i false = false) (h3 : ∃ i, D.getD i false = true) : regB 0#32 D ≠ 0#32 := by
  have e : D = D.take a ++ ((D.drop a).take 32 ++ (D.drop a).drop 32) := by rw [List.take_append_drop, List.take_append_drop]
  have g1 : ∀ i, (D.take a).getD i false = false := by
    intro i
    by_cases hi : i < a
    · have := h1 i hi
      simp only [List.getD, List.getElem?_take, hi, if_true] at *
      exact this
    · simp [List.getD, List.getElem?_take, hi]
  have g3 : ∀ i, ((D.drop a).drop 32).getD i false = false := by
    intro i
    have := h2 (a + 32 + i) (by omega)
    simpa [List.getD, List.getElem?_drop, Nat.add_assoc] using this
  rw [e, regB_append, regB_zeros _ _ g1, stp_zero, regB_append, regB_zeros _ _ g3, regB_word _ _ (by rw [List.length_take]; omega)]
  intro h
  have hw := stp_ker _ (stp_ker _ h)
  rw [BitVec.zero_xor] at hw
  obtain ⟨i, hi⟩ := h3
  by_cases ia : i < a
  · rw [h1 i ia] at hi; cases hi
  · by_cases ib : a + 32 ≤ i
    · rw [h2 i ib] at hi; cases hi
    · have hb := bvL_bit ((D.drop a).take 32) (i - a) (by omega)
      rw [hw] at hb
      have : ((D.drop a).take 32).getD (i - a) false = true := by
        simp only [List.getD, List.getElem?_take, show i - a < 32 by omega, if_true, List.getElem?_drop, show a + (i - a) = i by omega]
        exact hi
      rw [this] at hb
      simp at hb

/-- One bit. -/
theorem single {D : List Bool} {a : Nat} (ha : a < D.length) (h : ∀ i, D.getD i false = decide (i = a)) : regB 0#32 D = stp (D.length - a) 1#32 := by
  have e : D = D.take a ++ (true :: D.drop (a + 1)) := by
    have : D[a] = true := by
      have := h a
      simpa [List.getD, ha] using this
    rw [← this, ← List.drop_eq_getElem_cons ha, List.take_append_drop]
  have g1 : ∀ i, (D.take a).getD i false = false := by
    intro i
    have := h i
    by_cases hi : i < a
    · have hn : i ≠ a := by omega
      simp only [List.getD, List.getElem?_take, hi, if_true] at *
      rw [this]; simpa using hn
    · simp [List.getD, List.getElem?_take, hi]
  have g3 : ∀ i, (D.drop (a + 1)).getD i false = false := by
    intro i
    have := h (a + 1 + i)
    have hn : a + 1 + i ≠ a := by omega
    simp only [List.getD, List.getElem?_drop] at *
    rw [this]; simpa using hn
  have hl : (D.drop (a + 1)).length = D.length - (a + 1) := by simp
  have h1 : step1 0#32 true = step 1#32 := by decide
  have hd : D.length - a = (D.length - (a + 1)) + 1 := by omega
  rw [hd, stp_succ, ← h1, ← hl]
  conv => lhs; rw [e]
  rw [regB_append, regB_zeros _ _ g1, stp_zero, regB_cons, regB_zeros _ _ g3]

/-- The period of 1 is longer than 1631. -/
def never : Nat → BitVec 32 → Bool
  | 0, _ => true
  | k + 1, c => !(c == 1#32) && never k (step c)
theorem never_out : ∀ n c, never n c = true → ∀ d, d < n → stp d c ≠ 1#32
  | 0, _, _, d, hd => by omega
  | n + 1, c, h, d, hd => by
    simp only [never, Bool.and_eq_true, Bool.not_eq_true', beq_eq_false_iff_ne] at h
    cases d with
    | zero => exact h.1
    | succ d => exact never_out n _ h.2 d (by omega)
theorem never_add : ∀ n m c, never n c = true → never m (stp n c) = true → never (n + m) c = true
  | 0, m, c, _, h => by simpa [stp] using h
  | n + 1, m, c, h, g => by
    rw [show n + 1 + m = (n + m) + 1 by omega]
    simp only [never, Bool.and_eq_true] at h ⊢
    exact ⟨h.1, never_add n m _ h.2 g⟩
end Go.Proofs.Ytgejpbgpgklimaa
