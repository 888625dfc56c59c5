/- Traces merged and parts of traces: plain facts on lists of pairs; nothing is said of the program here. -/
import Derived.Test.YtaknbjjcgcmdlaaConf
import Derived.Test.YtaknbjjcgcmdlaaSum
namespace Go.Proofs.Ytaknbjjcgcmdlaa

/-- What comes from t to u. -/
def amount (t u : Int) (l : List (Int × Int)) : Int := (l.map fun x => if t ≤ x.1 ∧ x.1 ≤ u then x.2 else 0).sum
theorem amount_cons (t u : Int) (x : Int × Int) (l : List (Int × Int)) : amount t u (x :: l) = (if t ≤ x.1 ∧ x.1 ≤ u then x.2 else 0) + amount t u l := by unfold amount; rw [List.map_cons, List.sum_cons]
theorem amount_append (t u : Int) (l m : List (Int × Int)) : amount t u (l ++ m) = amount t u l + amount t u m := by
  induction l with
  | nil => simp [amount]
  | cons x l ih => rw [List.cons_append, amount_cons, amount_cons, ih]; omega
theorem amount_perm {t u : Int} {l m : List (Int × Int)} (h : l.Perm m) : amount t u l = amount t u m := by
  induction h with
  | nil => rfl
  | cons x _ ih => rw [amount_cons, amount_cons, ih]
  | swap x y l => rw [amount_cons, amount_cons, amount_cons, amount_cons]; omega
  | trans _ _ a b => exact a.trans b
theorem amount_sub {t u : Int} {l m : List (Int × Int)} (h : m.Sublist l) (hs : ∀ x ∈ l, 0 ≤ x.2) : amount t u m ≤ amount t u l := by
  induction h with
  | slnil => exact Int.le_refl _
  | cons a _ ih =>
    have h1 := ih fun x hx => hs x (List.mem_cons_of_mem _ hx)
    have h2 := hs a (List.mem_cons_self ..)
    rw [amount_cons]
    split <;> omega
  | cons_cons a _ ih =>
    have h1 := ih fun x hx => hs x (List.mem_cons_of_mem _ hx)
    rw [amount_cons, amount_cons]
    omega

def amtS (a s : Nat → Int) (t u : Int) : Nat → Int
  | 0 => 0
  | k + 1 => amtS a s t u k + if t ≤ a k ∧ a k ≤ u then s k else 0
theorem amtS_take (t u : Int) (l : List (Int × Int)) : ∀ k, k ≤ l.length → amount t u (l.take k) = amtS (atL l) (szL l) t u k
  | 0, _ => by simp [amount, amtS]
  | k + 1, hk => by
    have e : l.take (k + 1) = l.take k ++ [l.getD k (0, 0)] := by
      rw [List.take_add_one, List.getD_eq_getElem?_getD, List.getElem?_eq_getElem (by omega)]; rfl
    rw [e, amount_append, amtS_take t u l k (by omega), amount_cons]
    simp only [amtS, atL, szL, amount, List.map_nil, List.sum_nil, Int.add_zero]
    rfl
theorem amount_amtS (t u : Int) (l : List (Int × Int)) : amount t u l = amtS (atL l) (szL l) t u l.length := by
  rw [← amtS_take t u l l.length (Nat.le_refl _), List.take_length]

theorem psum_mono {s : Nat → Int} {n : Nat} (hs : ∀ k, k < n → 0 ≤ s k) : ∀ j, j ≤ n → ∀ i, i ≤ j → psum s i ≤ psum s j
  | 0, _, i, hi => by obtain rfl : i = 0 := by omega
                      exact Int.le_refl _
  | j + 1, hj, i, hi => by
    by_cases e : i = j + 1
    · subst e; exact Int.le_refl _
    · have := psum_mono hs j (by omega) i (by omega)
      have := hs j (by omega)
      simp only [psum]
      omega
theorem amtS_up {a s : Nat → Int} {t u : Int} : ∀ {n : Nat}, (∀ k, k < n → 0 ≤ s k) → amtS a s t u n = 0 ∨ ∃ i j, i ≤ j ∧ j < n ∧ t ≤ a i ∧ a j ≤ u ∧ amtS a s t u n ≤ psum s (j + 1) - psum s i
  | 0, _ => Or.inl rfl
  | n + 1, hs => by
    have ih := amtS_up (a := a) (s := s) (t := t) (u := u) (n := n) fun k hk => hs k (by omega)
    have h0 := hs n (by omega)
    simp only [amtS]
    split
    · rename_i hin
      rcases ih with e | ⟨i, j, hij, hj, h1, h2, h3⟩
      · exact Or.inr ⟨n, n, Nat.le_refl _, by omega, hin.1, hin.2, by simp only [psum]; omega⟩
      · have := psum_mono hs n (by omega) (j + 1) (by omega)
        exact Or.inr ⟨i, n, by omega, by omega, h1, hin.2, by have e : psum s (n + 1) = psum s n + s n := rfl; omega⟩
    · rcases ih with e | ⟨i, j, hij, hj, h1, h2, h3⟩
      · exact Or.inl (by omega)
      · exact Or.inr ⟨i, j, hij, by omega, h1, h2, by omega⟩
theorem amtS_low {a s : Nat → Int} {i j : Nat} (hs : ∀ k, k ≤ j → 0 ≤ s k) (ha : ∀ k, i ≤ k → k ≤ j → a i ≤ a k ∧ a k ≤ a j) (hij : i ≤ j) : ∀ k, k ≤ j + 1 → psum s k - psum s (min k i) ≤ amtS a s (a i) (a j) k
  | 0, _ => by simp [psum, amtS]
  | k + 1, hk => by
    have ih := amtS_low hs ha hij k (by omega)
    have h0 := hs k (by omega)
    simp only [amtS]
    by_cases h : i ≤ k
    · rw [if_pos (ha k h (by omega))]
      have e1 : min (k + 1) i = i := by omega
      have e2 : min k i = i := by omega
      rw [e1]; rw [e2] at ih
      simp only [psum]; omega
    · have e1 : min (k + 1) i = k + 1 := by omega
      rw [e1]
      have e2 : min k i = k := by omega
      rw [e2] at ih
      split <;> omega
theorem amtS_mono {a s : Nat → Int} {t u : Int} {n : Nat} (hs : ∀ k, k < n → 0 ≤ s k) : ∀ m, m ≤ n → ∀ k, k ≤ m → amtS a s t u k ≤ amtS a s t u m
  | 0, _, k, hk => by obtain rfl : k = 0 := by omega
                      exact Int.le_refl _
  | m + 1, hm, k, hk => by
    by_cases e : k = m + 1
    · subst e; exact Int.le_refl _
    · have := amtS_mono (a := a) (t := t) (u := u) hs m (by omega) k (by omega)
      have := hs m (by omega)
      simp only [amtS]
      split <;> omega
/-- Conforming, said of times. -/
theorem fits_iff {B R : Int} {l : List (Int × Int)} (hB : 0 ≤ B) (hR : 0 ≤ R) (ht : okT l = true) : fitsL B R l = true ↔ ∀ t u, t ≤ u → (amount t u l - B) * 1048576 ≤ R * (u - t) := by
  have hk := okSteps_bd (okT_iff.1 ht).2
  have hm := okSteps_mono (okT_iff.1 ht).2
  have hs : ∀ k, k < l.length → 0 ≤ szL l k := fun k h => by have := hk k h; omega
  unfold fitsL
  rw [fitsB_iff]
  constructor
  · intro h t u htu
    have h0 : 0 ≤ R * (u - t) := Int.mul_nonneg hR (by omega)
    rw [amount_amtS]
    rcases amtS_up (a := atL l) (t := t) (u := u) hs with e | ⟨i, j, hij, hj, h1, h2, h3⟩
    · rw [e]; omega
    · have hg := h j hj i hij
      unfold gapB at hg
      rw [decide_eq_true_eq] at hg
      have : R * (atL l j - atL l i) ≤ R * (u - t) := Int.mul_le_mul_of_nonneg_left (by omega) hR
      omega
  · intro h j hj i hij
    have h1 := h (atL l i) (atL l j) (hm j hj i hij)
    rw [amount_amtS] at h1
    have h2 := amtS_low (a := atL l) (s := szL l) (i := i) (j := j) (fun k hk' => hs k (by omega)) (fun k h1 h2 => ⟨hm k (by omega) i h1, hm j hj k h2⟩) hij (j + 1) (Nat.le_refl _)
    have h3 := amtS_mono (a := atL l) (s := szL l) (t := atL l i) (u := atL l j) hs l.length (Nat.le_refl _) (j + 1) (by omega)
    have e : min (j + 1) i = i := by omega
    rw [e] at h2
    unfold gapB
    rw [decide_eq_true_eq]
    omega
theorem okT_size {l : List (Int × Int)} (h : okT l = true) : ∀ x ∈ l, 0 ≤ x.2 := fun x hx => by have := (okT_pair.1 h).2.1 x hx; omega
theorem fits_sub {B R : Int} {l m : List (Int × Int)} (hB : 0 ≤ B) (hR : 0 ≤ R) (ht : okT l = true) (hs : m.Sublist l) (h : fitsL B R l = true) : fitsL B R m = true := by
  rw [fits_iff hB hR (okT_sub ht hs)]
  intro t u htu
  have h1 := (fits_iff hB hR ht).1 h t u htu
  have h2 := amount_sub (t := t) (u := u) hs (okT_size ht)
  omega
theorem fits_merge {B R B' R' : Int} {x y m : List (Int × Int)} (hB : 0 ≤ B) (hR : 0 ≤ R) (hB' : 0 ≤ B') (hR' : 0 ≤ R') (hx : okT x = true) (hy : okT y = true) (hm : okT m = true) (hp : m.Perm (x ++ y)) (h1 : fitsL B R x = true) (h2 : fitsL B' R' y = true) : fitsL (B + B') (R + R') m = true := by
  rw [fits_iff (by omega) (by omega) hm]
  intro t u htu
  have a1 := (fits_iff hB hR hx).1 h1 t u htu
  have a2 := (fits_iff hB' hR' hy).1 h2 t u htu
  have a3 := amount_perm (t := t) (u := u) hp
  rw [amount_append] at a3
  rw [Int.add_mul]
  omega

theorem confL_fits (B R : Int) (l : List (Int × Int)) : fitsL B R (confL B R l) = true := by
  suffices ∀ (l out : List (Int × Int)), fitsL B R out = true → fitsL B R (l.foldl (confStep B R) out) = true from this l [] rfl
  intro l
  induction l with
  | nil => intro out h; exact h
  | cons x l ih =>
    intro out h
    rw [List.foldl_cons]
    refine ih _ ?_
    unfold confStep
    split
    · assumption
    · exact h
theorem confL_sublist (B R : Int) (l : List (Int × Int)) : (confL B R l).Sublist l := by
  have := confL_sub B R l l.length (Nat.le_refl _)
  rwa [List.take_length] at this
/-- The earlier of two arrivals, the first's if at one time. -/
def before (x y : Int × Int) : Bool := decide (x.1 ≤ y.1)
theorem okT_merge {x y : List (Int × Int)} (hx : okT x = true) (hy : okT y = true) (hl : x.length + y.length ≤ 200) : okT (x.merge y before) = true := by
  obtain ⟨-, x1, x2⟩ := okT_pair.1 hx
  obtain ⟨-, y1, y2⟩ := okT_pair.1 hy
  refine okT_pair.2 ⟨by rw [List.length_merge]; exact hl, fun z hz => ?_, ?_⟩
  · rcases List.mem_merge.1 hz with h | h
    · exact x1 z h
    · exact y1 z h
  · have := List.pairwise_merge (le := before) (fun a b c h1 h2 => by unfold before at *; rw [decide_eq_true_eq] at *; omega) (fun a b => by unfold before; rw [Bool.or_eq_true, decide_eq_true_eq, decide_eq_true_eq]; omega) x y (x2.imp fun h => by unfold before; rw [decide_eq_true_eq]; exact h) (y2.imp fun h => by unfold before; rw [decide_eq_true_eq]; exact h)
    exact this.imp fun h => by unfold before at h; rwa [decide_eq_true_eq] at h
theorem drop_next {l : List (Int × Int)} {i : Nat} (h : i < l.length) : l.drop i = (atL l i, szL l i) :: l.drop (i + 1) := by
  rw [List.drop_eq_getElem_cons h]
  unfold atL szL
  rw [List.getD_eq_getElem?_getD, List.getElem?_eq_getElem h]
  rfl
theorem take_next {l : List (Int × Int)} {i : Nat} (h : i < l.length) : l.take (i + 1) = l.take i ++ [(atL l i, szL l i)] := by
  unfold atL szL
  rw [List.take_add_one, List.getD_eq_getElem?_getD, List.getElem?_eq_getElem h]
  rfl
theorem merge_x {x y : List (Int × Int)} {i j : Nat} (hi : i < x.length) (h : y.length ≤ j ∨ atL x i ≤ atL y j) : (x.drop i).merge (y.drop j) before = (atL x i, szL x i) :: (x.drop (i + 1)).merge (y.drop j) before := by
  rcases Nat.lt_or_ge j y.length with hj | hj
  · rw [drop_next hi, drop_next hj, List.cons_merge_cons, if_pos (by unfold before; rw [decide_eq_true_eq]; show atL x i ≤ atL y j; omega)]
  · rw [List.drop_eq_nil_of_le hj, List.merge_right, List.merge_right, drop_next hi]
theorem merge_y {x y : List (Int × Int)} {i j : Nat} (hj : j < y.length) (h : x.length ≤ i ∨ ¬ atL x i ≤ atL y j) : (x.drop i).merge (y.drop j) before = (atL y j, szL y j) :: (x.drop i).merge (y.drop (j + 1)) before := by
  rcases Nat.lt_or_ge i x.length with hi | hi
  · rw [drop_next hi, drop_next hj, List.cons_merge_cons, if_neg (by unfold before; rw [decide_eq_true_eq]; show ¬ atL x i ≤ atL y j; omega)]
  · rw [List.drop_eq_nil_of_le hi, List.nil_merge, List.nil_merge, drop_next hj]
theorem each_two {a b c d : Int} (h1 : 1 ≤ a ∧ a ≤ 1048576) (h2 : 1 ≤ b ∧ b ≤ 2097152) (h3 : 1 ≤ c ∧ c ≤ 1048576) (h4 : 1 ≤ d ∧ d ≤ 2097152) : okEach (atL [(a, b), (c, d)]) (szL [(a, b), (c, d)]) 2 = true := by
  rw [okEach_succ, okEach_succ, show okEach (atL [(a, b), (c, d)]) (szL [(a, b), (c, d)]) 0 = true from rfl, show okBk (atL [(a, b), (c, d)] 0) (szL [(a, b), (c, d)] 0) = true from okBk_iff.2 ⟨h1.1, h1.2, h2.1, h2.2⟩, show okBk (atL [(a, b), (c, d)] 1) (szL [(a, b), (c, d)] 1) = true from okBk_iff.2 ⟨h3.1, h3.2, h4.1, h4.2⟩]
  rfl
theorem sum_two {a b c d : Int} (h1 : 1 ≤ a ∧ a ≤ 1048576) (h2 : 1 ≤ b ∧ b ≤ 2097152) (h3 : 1 ≤ c ∧ c ≤ 1048576) (h4 : 1 ≤ d ∧ d ≤ 2097152) (h5 : a + c ≤ 1048576) (h6 : b + d ≤ 2097152) : sumR [(a, b), (c, d)] = ((a + c, b + d), 0) := by
  have p : psum (atL [(a, b), (c, d)]) 2 = a + c := by show 0 + a + c = a + c; omega
  have q : psum (szL [(a, b), (c, d)]) 2 = b + d := by show 0 + b + d = b + d; omega
  show sumS (atL [(a, b), (c, d)]) (szL [(a, b), (c, d)]) 2 = _
  unfold sumS
  rw [if_pos (each_two h1 h2 h3 h4), p, q, if_pos (okBk_iff.2 (by omega))]
theorem sum_two_big {a b c d : Int} (h1 : 1 ≤ a ∧ a ≤ 1048576) (h2 : 1 ≤ b ∧ b ≤ 2097152) (h3 : 1 ≤ c ∧ c ≤ 1048576) (h4 : 1 ≤ d ∧ d ≤ 2097152) (h5 : 1048576 < a + c) : sumR [(a, b), (c, d)] = ((0, 0), 6) := by
  have p : psum (atL [(a, b), (c, d)]) 2 = a + c := by show 0 + a + c = a + c; omega
  show sumS (atL [(a, b), (c, d)]) (szL [(a, b), (c, d)]) 2 = _
  unfold sumS
  rw [if_pos (each_two h1 h2 h3 h4), p, if_neg (by rw [okBk_iff]; omega)]
end Go.Proofs.Ytaknbjjcgcmdlaa
