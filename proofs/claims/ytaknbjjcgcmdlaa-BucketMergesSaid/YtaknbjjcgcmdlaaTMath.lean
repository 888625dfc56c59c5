/- Token levels and intervals: plain facts on integers; nothing is said of the program here. -/
import Derived.Test.YtaknbjjcgcmdlaaBase
namespace Go.Proofs.Ytaknbjjcgcmdlaa

def psum (s : Nat → Int) : Nat → Int
  | 0 => 0
  | k + 1 => psum s k + s k
def prevAt (a : Nat → Int) : Nat → Int
  | 0 => 0
  | k + 1 => a k
/-- The token level when k arrivals have come. -/
def lev (B R : Int) (a s : Nat → Int) : Nat → Int
  | 0 => B * 1048576
  | k + 1 => min (B * 1048576) (lev B R a s k + R * (a k - prevAt a k)) - s k * 1048576
/-- The interval from i to j is within the bucket. -/
def gapB (B R : Int) (a s : Nat → Int) (i j : Nat) : Bool := decide ((psum s (j + 1) - psum s i - B) * 1048576 ≤ R * (a j - a i))
def fitsB (B R : Int) (a s : Nat → Int) (n : Nat) : Bool := (List.range n).all fun j => (List.range (j + 1)).all fun i => gapB B R a s i j

theorem fitsB_iff {B R : Int} {a s : Nat → Int} {n : Nat} : fitsB B R a s n = true ↔ ∀ j, j < n → ∀ i, i ≤ j → gapB B R a s i j = true := by
  unfold fitsB
  simp only [List.all_eq_true, List.mem_range]
  exact ⟨fun h j hj i hi => h j hj i (by omega), fun h j hj i hi => h j hj i (by omega)⟩

theorem lev_le {B R : Int} {a s : Nat → Int} (h0 : 0 ≤ a 0) (hR : 0 ≤ R) : ∀ k i, i ≤ k → lev B R a s (k + 1) ≤ (B - (psum s (k + 1) - psum s i)) * 1048576 + R * (a k - a i)
  | 0, i, hi => by
    obtain rfl : i = 0 := by omega
    have : 0 ≤ R * (a 0 - 0) := Int.mul_nonneg hR (by omega)
    simp only [lev, psum, prevAt]
    rw [show R * (a 0 - a 0) = 0 by rw [Int.sub_self, Int.mul_zero]]
    omega
  | k + 1, i, hi => by
    by_cases h : i = k + 1
    · subst h
      rw [show R * (a (k + 1) - a (k + 1)) = 0 by rw [Int.sub_self, Int.mul_zero]]
      simp only [lev, psum]
      omega
    · have ih := lev_le (B := B) (R := R) (a := a) (s := s) h0 hR k i (by omega)
      rw [show lev B R a s (k + 1 + 1) = min (B * 1048576) (lev B R a s (k + 1) + R * (a (k + 1) - a k)) - s (k + 1) * 1048576 from rfl, show psum s (k + 1 + 1) = psum s (k + 1) + s (k + 1) from rfl]
      rw [show R * (a (k + 1) - a i) = R * (a (k + 1) - a k) + R * (a k - a i) by rw [← Int.mul_add]; congr 1; omega]
      omega
theorem lev_ex {B R : Int} {a s : Nat → Int} (h0 : 0 ≤ a 0) (hR : 0 ≤ R) : ∀ k, ∃ i, i ≤ k ∧ lev B R a s (k + 1) = (B - (psum s (k + 1) - psum s i)) * 1048576 + R * (a k - a i)
  | 0 => ⟨0, Nat.le_refl _, by
    have : 0 ≤ R * (a 0 - 0) := Int.mul_nonneg hR (by omega)
    simp only [lev, psum, prevAt]
    rw [show R * (a 0 - a 0) = 0 by rw [Int.sub_self, Int.mul_zero]]
    omega⟩
  | k + 1 => by
    obtain ⟨i, hi, e⟩ := lev_ex (B := B) (R := R) (a := a) (s := s) h0 hR k
    by_cases h : B * 1048576 ≤ lev B R a s (k + 1) + R * (a (k + 1) - a k)
    · refine ⟨k + 1, Nat.le_refl _, ?_⟩
      rw [show R * (a (k + 1) - a (k + 1)) = 0 by rw [Int.sub_self, Int.mul_zero]]
      rw [show lev B R a s (k + 1 + 1) = min (B * 1048576) (lev B R a s (k + 1) + R * (a (k + 1) - a k)) - s (k + 1) * 1048576 from rfl, show psum s (k + 1 + 1) = psum s (k + 1) + s (k + 1) from rfl]
      omega
    · refine ⟨i, by omega, ?_⟩
      rw [show lev B R a s (k + 1 + 1) = min (B * 1048576) (lev B R a s (k + 1) + R * (a (k + 1) - a k)) - s (k + 1) * 1048576 from rfl, show psum s (k + 1 + 1) = psum s (k + 1) + s (k + 1) from rfl]
      rw [show R * (a (k + 1) - a i) = R * (a (k + 1) - a k) + R * (a k - a i) by rw [← Int.mul_add]; congr 1; omega]
      omega
/-- The level is negative behind an arrival if and only if an interval that ends with it is too great. -/
theorem lev_neg {B R : Int} {a s : Nat → Int} (h0 : 0 ≤ a 0) (hR : 0 ≤ R) (k : Nat) : lev B R a s (k + 1) < 0 ↔ ∃ i, i ≤ k ∧ gapB B R a s i k = false := by
  constructor
  · intro h
    obtain ⟨i, hi, e⟩ := lev_ex (B := B) (R := R) (a := a) (s := s) h0 hR k
    exact ⟨i, hi, by unfold gapB; rw [decide_eq_false_iff_not]; omega⟩
  · rintro ⟨i, hi, e⟩
    have := lev_le (B := B) (R := R) (a := a) (s := s) h0 hR k i hi
    unfold gapB at e
    rw [decide_eq_false_iff_not] at e
    omega

/-- The first index at which p holds; -1 if there is none. -/
def firstIdx (p : Nat → Bool) (n : Nat) : Int := match (List.range n).find? p with
  | some k => (k : Int)
  | none => -1
theorem firstIdx_none {p : Nat → Bool} {n : Nat} (h : ∀ k, k < n → p k = false) : firstIdx p n = -1 := by
  unfold firstIdx
  rw [List.find?_range_eq_none.2 (fun k hk => by simpa using h k hk)]
theorem firstIdx_some {p : Nat → Bool} {n k : Nat} (hk : k < n) (h : p k = true) (hb : ∀ j, j < k → p j = false) : firstIdx p n = k := by
  unfold firstIdx
  rw [List.find?_range_eq_some.2 ⟨h, by simpa using hk, fun j hj => by simpa using hb j hj⟩]
theorem firstIdx_cases (p : Nat → Bool) (n : Nat) : (firstIdx p n = -1 ∧ ∀ k, k < n → p k = false) ∨ ∃ k, k < n ∧ firstIdx p n = k ∧ p k = true ∧ ∀ j, j < k → p j = false := by
  cases h : (List.range n).find? p with
  | none =>
    have := List.find?_range_eq_none.1 h
    exact Or.inl ⟨by unfold firstIdx; rw [h], fun k hk => by simpa using this k hk⟩
  | some k =>
    obtain ⟨h1, h2, h3⟩ := List.find?_range_eq_some.1 h
    exact Or.inr ⟨k, by simpa using h2, by unfold firstIdx; rw [h], h1, fun j hj => by simpa using h3 j hj⟩
theorem firstIdx_neg {p : Nat → Bool} {n : Nat} : firstIdx p n < 0 ↔ ∀ k, k < n → p k = false := by
  rcases firstIdx_cases p n with ⟨e, h⟩ | ⟨k, hk, e, h, -⟩
  · rw [e]; exact ⟨fun _ => h, fun _ => by omega⟩
  · rw [e]
    refine ⟨fun h' => by omega, fun h' => ?_⟩
    rw [h' k hk] at h; cases h
theorem firstIdx_congr {p q : Nat → Bool} {n : Nat} (h : ∀ k, k < n → p k = q k) : firstIdx p n = firstIdx q n := by
  rcases firstIdx_cases q n with ⟨e, hn⟩ | ⟨k, hk, e, h1, h2⟩
  · rw [e]; exact firstIdx_none fun k hk => (h k hk).trans (hn k hk)
  · rw [e]; exact firstIdx_some hk ((h k hk).trans h1) fun j hj => (h j (by omega)).trans (h2 j hj)
/-- The first index at which q has been met by then. -/
theorem firstIdx_upto {p q : Nat → Bool} {n : Nat} (h : ∀ k, k < n → (q k = true ↔ ∃ j, j ≤ k ∧ p j = true)) : firstIdx p n = firstIdx q n := by
  rcases firstIdx_cases p n with ⟨e, hn⟩ | ⟨k, hk, e, h1, h2⟩
  · rw [e]
    refine (firstIdx_none fun k hk => ?_).symm
    cases hq : q k with
    | false => rfl
    | true =>
      obtain ⟨j, hj, hp⟩ := (h k hk).1 hq
      rw [hn j (by omega)] at hp; cases hp
  · rw [e]
    refine (firstIdx_some hk ((h k hk).2 ⟨k, Nat.le_refl _, h1⟩) fun j hj => ?_).symm
    cases hq : q j with
    | false => rfl
    | true =>
      obtain ⟨i, hi, hp⟩ := (h j (by omega)).1 hq
      rw [h2 i (by omega)] at hp; cases hp

def levNeg (B R : Int) (a s : Nat → Int) (k : Nat) : Bool := decide (lev B R a s (k + 1) < 0)
theorem fitsB_false {B R : Int} {a s : Nat → Int} {n : Nat} : fitsB B R a s n = false ↔ ∃ j, j < n ∧ ∃ i, i ≤ j ∧ gapB B R a s i j = false := by
  constructor
  · intro h
    unfold fitsB at h
    rw [List.all_eq_false] at h
    obtain ⟨j, hj, h⟩ := h
    rw [Bool.not_eq_true, List.all_eq_false] at h
    obtain ⟨i, hi, h⟩ := h
    have hi' : i < j + 1 := by simpa using hi
    exact ⟨j, by simpa using hj, i, by omega, by simpa using h⟩
  · rintro ⟨j, hj, i, hi, h⟩
    cases e : fitsB B R a s n with
    | false => rfl
    | true => rw [fitsB_iff.1 e j hj i hi] at h; cases h
/-- The first negative level comes with the first beginning that does not conform. -/
theorem first_eq {B R : Int} {a s : Nat → Int} (h0 : 0 ≤ a 0) (hR : 0 ≤ R) (n : Nat) : firstIdx (levNeg B R a s) n = firstIdx (fun k => !fitsB B R a s (k + 1)) n := by
  refine firstIdx_upto fun k _ => ?_
  simp only [Bool.not_eq_true', levNeg, decide_eq_true_eq]
  rw [fitsB_false]
  constructor
  · rintro ⟨j, hj, h⟩
    exact ⟨j, by omega, (lev_neg h0 hR j).2 h⟩
  · rintro ⟨j, hj, h⟩
    exact ⟨j, by omega, (lev_neg h0 hR j).1 h⟩
theorem first_neg {B R : Int} {a s : Nat → Int} (h0 : 0 ≤ a 0) (hR : 0 ≤ R) (n : Nat) : decide (firstIdx (levNeg B R a s) n < 0) = fitsB B R a s n := by
  rw [Bool.eq_iff_iff, decide_eq_true_eq, firstIdx_neg, fitsB_iff]
  constructor
  · intro h j hj i hi
    cases e : gapB B R a s i j with
    | true => rfl
    | false =>
      have := h j hj
      rw [show levNeg B R a s j = true by unfold levNeg; rw [decide_eq_true_eq]; exact (lev_neg h0 hR j).2 ⟨i, hi, e⟩] at this
      cases this
  · intro h j hj
    unfold levNeg
    rw [decide_eq_false_iff_not, lev_neg h0 hR j]
    rintro ⟨i, hi, e⟩
    rw [h j hj i hi] at e; cases e

theorem psum_congr {s t : Nat → Int} : ∀ {n : Nat}, (∀ k, k < n → s k = t k) → psum s n = psum t n
  | 0, _ => rfl
  | n + 1, h => by simp only [psum]; rw [psum_congr (fun k hk => h k (by omega)), h n (by omega)]
theorem fitsB_congr {B R : Int} {a s a' s' : Nat → Int} {n : Nat} (ha : ∀ k, k < n → a k = a' k) (hs : ∀ k, k < n → s k = s' k) : fitsB B R a s n = fitsB B R a' s' n := by
  have hg : ∀ j, j < n → ∀ i, i ≤ j → gapB B R a s i j = gapB B R a' s' i j := fun j hj i hi => by
    unfold gapB
    rw [ha j hj, ha i (by omega), psum_congr (n := j + 1) (fun k hk => hs k (by omega)), psum_congr (n := i) (fun k hk => hs k (by omega))]
  rw [Bool.eq_iff_iff, fitsB_iff, fitsB_iff]
  exact ⟨fun h j hj i hi => (hg j hj i hi).symm.trans (h j hj i hi), fun h j hj i hi => (hg j hj i hi).trans (h j hj i hi)⟩
theorem gapB_mono {B B' R R' : Int} {a s : Nat → Int} {i j : Nat} (hB : B ≤ B') (hR : R ≤ R') (ha : a i ≤ a j) (h : gapB B R a s i j = true) : gapB B' R' a s i j = true := by
  unfold gapB at h ⊢
  rw [decide_eq_true_eq] at h ⊢
  have : R * (a j - a i) ≤ R' * (a j - a i) := Int.mul_le_mul_of_nonneg_right hR (by omega)
  omega

/-! ### A trace as a list of times and sizes -/
def atL (l : List (Int × Int)) (k : Nat) : Int := (l.getD k (0, 0)).1
def szL (l : List (Int × Int)) (k : Nat) : Int := (l.getD k (0, 0)).2
def okStep (a s : Nat → Int) (k : Nat) : Bool := decide (prevAt a k ≤ a k ∧ a k ≤ 1099511627776 ∧ 1 ≤ s k ∧ s k ≤ 1048576)
def okSteps (a s : Nat → Int) (n : Nat) : Bool := (List.range n).all (okStep a s)
def okT (l : List (Int × Int)) : Bool := decide (l.length ≤ 200) && okSteps (atL l) (szL l) l.length
def okBk (B R : Int) : Bool := decide (1 ≤ B ∧ B ≤ 1048576 ∧ 1 ≤ R ∧ R ≤ 2097152)
def fitsL (B R : Int) (l : List (Int × Int)) : Bool := fitsB B R (atL l) (szL l) l.length
def firstL (B R : Int) (l : List (Int × Int)) : Int := firstIdx (levNeg B R (atL l) (szL l)) l.length

theorem okSteps_iff {a s : Nat → Int} {n : Nat} : okSteps a s n = true ↔ ∀ k, k < n → okStep a s k = true := by
  unfold okSteps; simp only [List.all_eq_true, List.mem_range]
theorem okSteps_succ {a s : Nat → Int} {n : Nat} : okSteps a s (n + 1) = (okSteps a s n && okStep a s n) := by
  unfold okSteps; rw [List.range_succ, List.all_append]; simp
theorem okSteps_no {a s : Nat → Int} {n k : Nat} (hk : k < n) (h : okStep a s k = false) : okSteps a s n = false := by
  cases e : okSteps a s n with
  | false => rfl
  | true => rw [okSteps_iff.1 e k hk] at h; cases h
theorem okSteps_bd {a s : Nat → Int} {n : Nat} (h : okSteps a s n = true) : ∀ k, k < n → 0 ≤ a k ∧ a k ≤ 1099511627776 ∧ 0 ≤ prevAt a k ∧ prevAt a k ≤ a k ∧ 1 ≤ s k ∧ s k ≤ 1048576
  | 0, hk => by
    have := okSteps_iff.1 h 0 hk
    unfold okStep at this
    rw [decide_eq_true_eq] at this
    simp only [prevAt] at this ⊢
    omega
  | k + 1, hk => by
    have ih := okSteps_bd h k (by omega)
    have := okSteps_iff.1 h (k + 1) hk
    unfold okStep at this
    rw [decide_eq_true_eq] at this
    simp only [prevAt] at this ⊢
    omega
theorem okSteps_mono {a s : Nat → Int} {n : Nat} (h : okSteps a s n = true) : ∀ j, j < n → ∀ i, i ≤ j → a i ≤ a j
  | 0, _, i, hi => by obtain rfl : i = 0 := by omega
                      exact Int.le_refl _
  | j + 1, hj, i, hi => by
    by_cases e : i = j + 1
    · subst e; exact Int.le_refl _
    · have := okSteps_mono h j (by omega) i (by omega)
      have := (okSteps_bd h (j + 1) hj).2.2.2.1
      simp only [prevAt] at this
      omega
theorem okSteps_le {a s : Nat → Int} {n m : Nat} (h : okSteps a s n = true) (hm : m ≤ n) : okSteps a s m = true := okSteps_iff.2 fun k hk => okSteps_iff.1 h k (by omega)
theorem okT_iff {l : List (Int × Int)} : okT l = true ↔ l.length ≤ 200 ∧ okSteps (atL l) (szL l) l.length = true := by
  unfold okT; rw [Bool.and_eq_true, decide_eq_true_eq]
theorem atL_zero {l : List (Int × Int)} (h : okT l = true) : 0 ≤ atL l 0 := by
  cases l with
  | nil => simp [atL]
  | cons x l => exact (okSteps_bd (okT_iff.1 h).2 0 (by simp)).1
theorem psum_bd {a s : Nat → Int} {n : Nat} (h : okSteps a s n = true) : ∀ k, k ≤ n → (k : Int) ≤ psum s k ∧ psum s k ≤ k * 1048576
  | 0, _ => by simp [psum]
  | k + 1, hk => by
    have ih := psum_bd h k (by omega)
    have := okSteps_bd h k (by omega)
    simp only [psum]
    omega
/-- The levels of a valid trace stay small. -/
theorem lev_bd {B R : Int} {a s : Nat → Int} {n : Nat} (hb : okBk B R = true) (h : okSteps a s n = true) : ∀ k, k ≤ n → -(k * 1099511627776) ≤ lev B R a s k ∧ lev B R a s k ≤ B * 1048576
  | 0, _ => by unfold okBk at hb; simp at hb; simp only [lev]; omega
  | k + 1, hk => by
    have ih := lev_bd hb h k (by omega)
    have hs := okSteps_bd h k (by omega)
    unfold okBk at hb
    rw [decide_eq_true_eq] at hb
    have : 0 ≤ R * (a k - prevAt a k) := Int.mul_nonneg (by omega) (by omega)
    simp only [lev]
    omega
theorem gain_bd {R d : Int} (hR : 1 ≤ R ∧ R ≤ 2097152) (hd : 0 ≤ d ∧ d ≤ 1099511627776) : 0 ≤ R * d ∧ R * d ≤ 2305843009213693952 := by
  refine ⟨Int.mul_nonneg (by omega) hd.1, ?_⟩
  have h1 : R * d ≤ 2097152 * d := Int.mul_le_mul_of_nonneg_right hR.2 hd.1
  omega
theorem okBk_iff {B R : Int} : okBk B R = true ↔ 1 ≤ B ∧ B ≤ 1048576 ∧ 1 ≤ R ∧ R ≤ 2097152 := by unfold okBk; rw [decide_eq_true_eq]

end Go.Proofs.Ytaknbjjcgcmdlaa
