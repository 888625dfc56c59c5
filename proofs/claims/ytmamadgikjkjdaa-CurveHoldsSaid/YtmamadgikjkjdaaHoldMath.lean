/- The latest departure of a frame of a trace that conforms to two buckets: plain facts on integers. Nothing is said of the program here. -/
import Derived.Test.YtmamadgikjkjdaaConf2
import Derived.Test.YtmamadgikjkjdaaRefDrain
namespace Go.Proofs.Ytmamadgikjkjdaa
open Go Go.RowKit

theorem done_le {a s : Nat → Int} {S M : Int} {j : Nat} (hS : 0 ≤ S) (ha : 0 ≤ a 0) (hd : ∀ k, k ≤ j + 1 → 0 ≤ doneS a s S k) (h : ∀ i, i ≤ j → a i * S + (psum s (j + 1) - psum s i) * 1048576 ≤ M) : ∀ k, k ≤ j + 1 → doneS a s S k + (psum s (j + 1) - psum s k) * 1048576 ≤ M
  | 0, _ => by
    have h0 := h 0 (by omega)
    have h1 := Int.mul_nonneg ha hS
    have e : doneS a s S 0 = 0 := rfl
    rw [e]
    omega
  | k + 1, hk => by
    have ih := done_le hS ha hd h k (by omega)
    have hk' := h k (by omega)
    have hd0 := hd k (by omega)
    have eD : doneS a s S (k + 1) = max (max 0 (doneS a s S k)) (a k * S) + s k * 1048576 := rfl
    have eP : psum s (k + 1) = psum s k + s k := rfl
    rw [eD, eP]
    omega
theorem done_mono {a s : Nat → Int} {S : Int} {k : Nat} (hs : 0 ≤ s k) : doneS a s S k ≤ doneS a s S (k + 1) := by
  have eD : doneS a s S (k + 1) = max (max 0 (doneS a s S k)) (a k * S) + s k * 1048576 := rfl
  rw [eD]
  omega
theorem minL_all {P : Int → Prop} : ∀ (l : List Int) (m : Int), P m → (∀ x ∈ l, P x) → P (minL m l)
  | [], m, h, _ => h
  | x :: l, m, h, hl => by
    show P (minL (min m x) l)
    refine minL_all l _ ?_ (fun y hy => hl y (List.mem_cons_of_mem _ hy))
    rcases Int.le_total m x with h' | h'
    · rw [show min m x = m by omega]; exact h
    · rw [show min m x = x by omega]; exact hl x List.mem_cons_self
theorem minL_le : ∀ (l : List Int) (m : Int), minL m l ≤ m ∧ ∀ x ∈ l, minL m l ≤ x
  | [], m => ⟨Int.le_refl _, fun x hx => by cases hx⟩
  | y :: l, m => by
    have ih := minL_le l (min m y)
    have e : minL m (y :: l) = minL (min m y) l := rfl
    rw [e]
    refine ⟨by omega, fun x hx => ?_⟩
    rcases List.mem_cons.1 hx with rfl | hx
    · omega
    · exact ih.2 x hx
theorem cross_holds {Ba Sa Bb Sb S N t : Int} (hS : 1 ≤ S) (h1 : S < Sa) (h2 : Sb ≤ S) (ga : (N - Ba) * 1048576 ≤ Sa * t) (gb : (N - Bb) * 1048576 ≤ Sb * t) : N * 1048576 ≤ S * (t + crossD Ba Sa Bb Sb S) := by
  have hD : 0 < Sa - Sb := by omega
  have hSD : 0 < S * (Sa - Sb) := Int.mul_pos (by omega) hD
  have h3 := le_ceilD (n := ((Sa - S) * Bb + (S - Sb) * Ba) * 1048576) (d := S * (Sa - Sb)) hSD
  obtain ⟨x, hx⟩ : ∃ x, crossD Ba Sa Bb Sb S = x := ⟨_, rfl⟩
  rw [hx]
  unfold crossD at hx
  rw [hx] at h3
  have g1 := Int.mul_le_mul_of_nonneg_left ga (show 0 ≤ S - Sb by omega)
  have g2 := Int.mul_le_mul_of_nonneg_left gb (show 0 ≤ Sa - S by omega)
  have e : (Sa - Sb) * (N * 1048576) ≤ (Sa - Sb) * (S * (t + x)) := by grind
  exact Int.le_of_mul_le_mul_left e hD
theorem slow_holds {Bb Sb S N t : Int} (hS : 1 ≤ S) (h2 : Sb ≤ S) (ht : 0 ≤ t) (gb : (N - Bb) * 1048576 ≤ Sb * t) : N * 1048576 ≤ S * (t + ceilD (Bb * 1048576) S) := by
  have h3 := le_ceilD (n := Bb * 1048576) (d := S) (by omega)
  obtain ⟨x, hx⟩ : ∃ x, ceilD (Bb * 1048576) S = x := ⟨_, rfl⟩
  rw [hx] at h3 ⊢
  have g1 := Int.mul_le_mul_of_nonneg_right h2 ht
  have e : S * (t + x) = S * t + x * S := by grind
  omega
theorem inner_all {P : Int → Prop} {a s : Nat → Int} {R Bb Sb : Int} {n : Nat} (h : ∀ j, j < n → R < s j → a j < Bb → P (crossD (a j) (s j) Bb Sb R)) : ∀ j, j ≤ n → ∀ x ∈ innerL a s R Bb Sb j, P x
  | 0, _, x, hx => by simp [innerL] at hx
  | j + 1, hj, x, hx => by
    simp only [innerL, List.mem_append] at hx
    rcases hx with hx | hx
    · exact inner_all h j (by omega) x hx
    · split at hx
      · rename_i h'
        simp only [List.mem_singleton] at hx
        subst hx
        exact h j (by omega) h'.1 h'.2
      · simp at hx
theorem outer_all {P : Int → Prop} {a s : Nat → Int} {R : Int} {n : Nat} (hs : ∀ k, k < n → s k ≤ R → P (ceilD (a k * 1048576) R)) (hc : ∀ k j, k < n → j < n → s k ≤ R → R < s j → a j < a k → P (crossD (a j) (s j) (a k) (s k) R)) : ∀ k, k ≤ n → ∀ x ∈ outerL a s R n k, P x
  | 0, _, x, hx => by simp [outerL] at hx
  | k + 1, hk, x, hx => by
    simp only [outerL, List.mem_append] at hx
    rcases hx with hx | hx
    · exact outer_all hs hc k (by omega) x hx
    · split at hx
      · rename_i h
        rcases List.mem_cons.1 hx with rfl | hx
        · exact hs k (by omega) h
        · exact inner_all (fun j hj h1 h2 => hc k j (by omega) hj h h1 h2) n (Nat.le_refl _) x hx
      · simp at hx
theorem clear_holds {X Y Bo Ro S N t : Int} (hS : 1 ≤ S) (ht : 0 ≤ t) (hN : N ≤ 209715200) (ga : (N - X) * 1048576 ≤ Y * t) (gb : (N - Bo) * 1048576 ≤ Ro * t) : N * 1048576 ≤ S * (t + clearS [(X, Y), (Bo, Ro)] S) := by
  refine minL_all (P := fun x => N * 1048576 ≤ S * (t + x)) _ _ ?_ (outer_all ?_ ?_ 2 (Nat.le_refl _))
  · have := Int.mul_le_mul_of_nonneg_right hS (show 0 ≤ t + 1125899906842624 by omega)
    omega
  · intro k hk h
    obtain rfl | rfl : k = 0 ∨ k = 1 := by have : k < 2 := hk; omega
    · exact slow_holds hS h ht ga
    · exact slow_holds hS h ht gb
  · intro k j hk hj h1 h2 _
    obtain rfl | rfl : k = 0 ∨ k = 1 := by have : k < 2 := hk; omega
    · obtain rfl | rfl : j = 0 ∨ j = 1 := by have : j < 2 := hj; omega
      · exfalso; omega
      · exact cross_holds hS h2 h1 gb ga
    · obtain rfl | rfl : j = 0 ∨ j = 1 := by have : j < 2 := hj; omega
      · exact cross_holds hS h2 h1 ga gb
      · exfalso; omega
theorem clear_one {X Y Bo Ro S : Int} (h : Ro ≤ S) : clearS [(X, Y), (Bo, Ro)] S ≤ ceilD (Bo * 1048576) S := by
  refine (minL_le _ _).2 _ ?_
  show _ ∈ outerL (atL [(X, Y), (Bo, Ro)]) (szL [(X, Y), (Bo, Ro)]) S 2 1 ++ (if szL [(X, Y), (Bo, Ro)] 1 ≤ S then ceilD (atL [(X, Y), (Bo, Ro)] 1 * 1048576) S :: _ else [])
  rw [List.mem_append]
  right
  rw [if_pos (show szL [(X, Y), (Bo, Ro)] 1 ≤ S from h)]
  exact List.mem_cons_self
theorem delay_two {X Y Bo Ro S L : Int} (hb : okBk X Y = true) (hb' : okBk Bo Ro = true) (hs : okSv S L = true) (h : Y ≤ S ∨ Ro ≤ S) : delayR [(X, Y), (Bo, Ro)] S L = (L + clearS [(X, Y), (Bo, Ro)] S, 0) := by
  have b1 := okBk_iff.1 hb
  have b2 := okBk_iff.1 hb'
  have e := each_two (a := X) (b := Y) (c := Bo) (d := Ro) (by omega) (by omega) (by omega) (by omega)
  have e2 : slowAny [(X, Y), (Bo, Ro)] S = true := by
    rcases h with h | h
    · exact anyN_yes (k := 0) (by simp) (by simp [szL, h])
    · exact anyN_yes (k := 1) (by simp) (by simp [szL, h])
  have ef : flowE [(X, Y), (Bo, Ro)] S L = 0 := by
    unfold flowE bucketsE serveE
    rw [hs, e2]
    simp [e]
  unfold delayR
  rw [if_pos ef]
theorem delay_no {X Y S L : Int} (hb : okBk X Y = true) (hs : okSv S L = true) (h : S < Y) : delayR [(X, Y)] S L = (0, 141) := by
  have ef : flowE [(X, Y)] S L = 141 := by
    unfold flowE bucketsE serveE slowAny anyN
    rw [hs]
    have hn : ¬ Y ≤ S := by omega
    simp [okEach, atL, szL, hb, hn]
  unfold delayR
  rw [ef]
  rfl
theorem hold_math {c : List (Int × Int)} {X Y Bo Ro S L : Int} (hc : okT c = true) (hS : 1 ≤ S) (ga : ∀ i j : Nat, i ≤ j → j < c.length → gapB X Y (atL c) (szL c) i j = true) (gb : ∀ i j : Nat, i ≤ j → j < c.length → gapB Bo Ro (atL c) (szL c) i j = true) {j : Nat} (hj : j < c.length) :
    L + ceilD (doneS (atL c) (szL c) S (j + 1)) S ≤ atL c j + (L + clearS [(X, Y), (Bo, Ro)] S) := by
  have hk := okT_iff.1 hc
  have bd := fun k h => okSteps_bd hk.2 k h
  obtain ⟨cl, hcl⟩ : ∃ cl, clearS [(X, Y), (Bo, Ro)] S = cl := ⟨_, rfl⟩
  have hd : ∀ k, k ≤ j + 1 → 0 ≤ doneS (atL c) (szL c) S k := by
    intro k hk'
    induction k with
    | zero => exact Int.le_refl 0
    | succ k ih =>
      have ih := ih (by omega)
      have := bd k (by omega)
      have := done_mono (a := atL c) (s := szL c) (S := S) (k := k) (by omega)
      omega
  have hm := done_le (a := atL c) (s := szL c) (S := S) (M := (atL c j + cl) * S) (j := j) (by omega) (bd 0 (by omega)).1 hd (fun i hi => by
    have h1 := ga i j hi hj
    have h2 := gb i j hi hj
    unfold gapB at h1 h2
    rw [decide_eq_true_eq] at h1 h2
    have pb := psum_bd hk.2 (j + 1) (by omega)
    have pb0 := psum_bd hk.2 i (by omega)
    have hl : ((j + 1 : Nat) : Int) ≤ 200 := by have := hk.1; omega
    have h3 := clear_holds (S := S) hS (show 0 ≤ atL c j - atL c i by have := okSteps_mono hk.2 j hj i hi; omega) (show psum (szL c) (j + 1) - psum (szL c) i ≤ 209715200 by omega) h1 h2
    rw [hcl] at h3
    have e : S * (atL c j - atL c i + cl) = (atL c j + cl) * S - atL c i * S := by grind
    omega) (j + 1) (Nat.le_refl _)
  have h4 := ceilD_le (n := doneS (atL c) (szL c) S (j + 1)) (d := S) (q := atL c j + cl) (by omega) (by omega)
  rw [hcl]
  omega
end Go.Proofs.Ytmamadgikjkjdaa
