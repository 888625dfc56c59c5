/- The pieces of a frame, joined in order. Nothing is said of the program here. -/
import Derived.Test.YtgejpbgpgklimaaMDrM
import Derived.Test.YtgejpbgpgklimaaMRowP
namespace Go.Proofs.Ytgejpbgpgklimaa
open Go Go.RowKit

theorem seal_other (z : ByteArray) : goodS (sealG z unf) 0#32 = false := by
  unfold goodS
  rw [sealG_list]
  exact good_other _ (by decide)
theorem ex_list (s : ByteArray) (i j : Nat) : (s.extract i j).data.toList = (s.data.toList.drop i).take (j - i) := extract_listB s i j
theorem join_mid (s : ByteArray) (x y : Nat) (hxy : x ≤ y) (hy : y ≤ s.size) (g : BitVec 32) : s.extract 0 x ++ (sealG (s.extract 0 y) g).extract x (y + 4) = sealG (s.extract 0 y) g := by
  apply bytes_ext
  have hl : s.data.toList.length = s.size := rfl
  have hA : (s.extract 0 y).data.toList = s.data.toList.take y := by rw [ex_list]; simp
  rw [ByteArray.data_append, Array.toList_append, ex_list, ex_list, sealG_list, hA]
  have h4 : (chk (s.data.toList.take y) g).length = 4 := octL_length _
  simp only [List.drop_zero, Nat.sub_zero]
  have hd : (s.data.toList.take y ++ chk (s.data.toList.take y) g).drop x = (s.data.toList.take y).drop x ++ chk (s.data.toList.take y) g := by
    rw [List.drop_append_of_le_length (by simp; omega)]
  have ht : ((s.data.toList.take y).drop x ++ chk (s.data.toList.take y) g).length ≤ y + 4 - x := by
    rw [List.length_append, h4, List.length_drop, List.length_take, hl]
    omega
  rw [hd, List.take_of_length_le ht, ← List.append_assoc]
  congr 1
  rw [show s.data.toList.take x = (s.data.toList.take y).take x by rw [List.take_take, Nat.min_eq_left hxy]]
  exact List.take_append_drop x _
theorem join_end (s : ByteArray) (x : Nat) : s.extract 0 x ++ s.extract x s.size = s := by
  apply bytes_ext
  have hl : s.data.toList.length = s.size := rfl
  rw [ByteArray.data_append, Array.toList_append, ex_list, ex_list]
  simp only [List.drop_zero, Nat.sub_zero]
  rw [List.take_of_length_le (l := s.data.toList.drop x) (by simp [hl])]
  exact List.take_append_drop x _
theorem ex_all (s : ByteArray) : s.extract 0 s.size = s := by
  apply bytes_ext
  have hl : s.data.toList.length = s.size := rfl
  rw [ex_list, List.drop_zero, Nat.sub_zero, ← hl, List.take_length]
theorem ex_front (z : ByteArray) (g : BitVec 32) : (sealG z g).extract 0 z.size = z := by
  apply bytes_ext
  have hl : z.data.toList.length = z.size := rfl
  rw [ex_list, sealG_list, List.drop_zero, Nat.sub_zero, ← hl, List.take_left]
theorem ex_size (s : ByteArray) (y : Nat) (h : y ≤ s.size) : (s.extract 0 y).size = y := by rw [ByteArray.size_extract]; omega
theorem recv_mark (s : ByteArray) (y : Nat) (n x : Int) (h : y ≤ s.size) (hs : y + 4 ≤ 1522) : recv (sealG (s.extract 0 y) unf) n x = (⟨true, n, x, s.extract 0 y⟩, ⟨#[]⟩) := by
  have hz : (sealG (s.extract 0 y) unf).size = y + 4 := by rw [sealG_size, ex_size s y h]
  unfold recv
  rw [hz, if_neg (by omega), seal_other, goodS_seal]
  simp only [Bool.false_eq_true, if_false, if_true]
  rw [show y + 4 - 4 = (s.extract 0 y).size by rw [ex_size s y h]; omega, ex_front]
theorem recv_good (s : ByteArray) (n x : Int) (hs : s.size ≤ 1522) (hg : goodS s 0#32 = true) : recv s n x = (zeroM, s) := by
  unfold recv
  rw [if_neg (by omega), hg]
  rfl

/-- The state when k pieces have come. -/
def stK (s : ByteArray) (n : Int) (cuts : List Int) (k : Nat) : Mg := if k = 0 ∨ cuts.length < k then zeroM else ⟨true, n, (((k - 1) % 4 : Nat) : Int), s.extract 0 (fr cuts k)⟩
structure Whole (s : ByteArray) (n : Int) (cuts : List Int) : Prop where
  low : 64 ≤ s.size
  high : s.size ≤ 1522
  good : goodS s 0#32 = true
  num : 0 ≤ n ∧ n ≤ 3
  ok : okCuts s.size cuts = true
theorem Whole.of {s : ByteArray} {n : Int} {cuts : List Int} (h : wholeB s = true) (hn : 0 ≤ n ∧ n ≤ 3) (hc : okCuts s.size cuts = true) : Whole s n cuts :=
  ⟨(wholeB_iff.1 h).1.1, (wholeB_iff.1 h).1.2, (wholeB_iff.1 h).2, hn, hc⟩
section
variable {s : ByteArray} {n : Int} {cuts : List Int} (h : Whole s n cuts)
include h
theorem fr_at {k : Nat} (hk : 1 ≤ k) (hl : k ≤ cuts.length) : 60 ≤ fr cuts k ∧ fr cuts k + 64 ≤ s.size := by
  have h1 := okTo_less h.ok hl
  have h2 := okTo_fr h1
  have h3 := fr_eq h1
  omega
theorem fr_le {k : Nat} (hl : k + 1 ≤ cuts.length) : fr cuts k + 60 ≤ fr cuts (k + 1) := by
  have h1 := okTo_less h.ok hl
  have h2 := okTo_step h1
  have h3 := fr_eq h1
  have h4 := fr_eq h2.1
  omega
theorem st_ok (k : Nat) : (stK s n cuts k).okB = true := by
  refine okM_iff.2 ?_
  unfold stK
  split
  · exact .inl rfl
  · rename_i hk
    have h1 := fr_at h (k := k) (by omega) (by omega)
    have h2 := h.high
    refine .inr ⟨rfl, h.num, by dsimp only; omega, ?_⟩
    dsimp only
    rw [ex_size s _ (by omega)]
    omega
theorem pc_size {k : Nat} : (pcAt s n cuts k).data.size = (if k < cuts.length then fr cuts (k + 1) + 4 - fr cuts k else s.size - fr cuts k) := by
  unfold pcAt
  dsimp only
  split
  · have h1 := fr_at h (k := k + 1) (by omega) (by omega)
    rw [ByteArray.size_extract, sealG_size, ex_size s _ (by omega)]
    omega
  · rw [ByteArray.size_extract]
    omega
theorem pc_ok {k : Nat} (hk : k ≤ cuts.length) : (pcAt s n cuts k).okB = true := by
  have hs := pc_size h (k := k)
  refine okP_iff.2 ⟨h.num, ?_, ?_, ?_⟩
  · show 0 ≤ cntAt k ∧ cntAt k ≤ 3
    unfold cntAt
    split <;> omega
  · intro h1
    have : k = 0 := by simpa [pcAt] using h1
    subst this
    rfl
  · rw [hs]
    have hh := h.high
    have hl := h.low
    split
    · rename_i h1
      have h2 := fr_le h (k := k) (by omega)
      have h3 := fr_at h (k := k + 1) (by omega) (by omega)
      omega
    · rcases Nat.eq_zero_or_pos k with rfl | h0
      · have h5 : fr cuts 0 = 0 := rfl
        omega
      · have h3 := fr_at h h0 hk
        omega
theorem stepM_any {k : Nat} (hk : k ≤ cuts.length) (m : Mg) (hm : k = 0 ∨ m = stK s n cuts k) : stepM m (pcAt s n cuts k) = (stK s n cuts (k + 1), if k = cuts.length then s else ⟨#[]⟩) := by
  have hh := h.high
  have hlow := h.low
  rcases Nat.eq_zero_or_pos k with rfl | h0
  · -- the start
    have e : stepM m (pcAt s n cuts 0) = recv (pcAt s n cuts 0).data n 0 := rfl
    rw [e]
    by_cases hl : 0 < cuts.length
    · have h1 := fr_at h (k := 1) (by omega) (by omega)
      have ed : (pcAt s n cuts 0).data = sealG (s.extract 0 (fr cuts 1)) unf := by
        unfold pcAt
        dsimp only
        rw [if_pos hl]
        have h2 := join_mid s 0 (fr cuts 1) (by omega) (by omega) unf
        have h3 : s.extract 0 0 = ⟨#[]⟩ := size_nil (by rw [ByteArray.size_extract]; omega)
        rw [h3] at h2
        rw [← h2]
        have h5 : fr cuts 0 = 0 := rfl
        rw [h5, Nat.zero_add]
        apply bytes_ext
        simp [ByteArray.data_append]
      rw [ed, recv_mark s _ n 0 (by omega) (by omega), if_neg (by omega)]
      unfold stK
      rw [if_neg (by omega)]
      rfl
    · have ed : (pcAt s n cuts 0).data = s := by
        unfold pcAt
        dsimp only
        rw [if_neg hl]
        exact ex_all s
      rw [ed, recv_good s n 0 hh h.good, if_pos (by omega)]
      unfold stK
      rw [if_pos (by omega)]
  · have hm' : m = ⟨true, n, (((k - 1) % 4 : Nat) : Int), s.extract 0 (fr cuts k)⟩ := by
      rcases hm with hm | hm
      · omega
      · rw [hm]; unfold stK; rw [if_neg (by omega)]
    have h1 := fr_at h h0 hk
    have ep : (pcAt s n cuts k).st = false := by simp [pcAt]; omega
    have ec : (pcAt s n cuts k).cnt = (((k - 1) % 4 : Nat) : Int) := by show cntAt k = _; unfold cntAt; rw [if_neg (by omega)]
    have en : (pcAt s n cuts k).num = n := rfl
    have ef : fitsB m (pcAt s n cuts k) = true := by
      unfold fitsB
      rw [hm', ec, en]
      simp
    have e : stepM m (pcAt s n cuts k) = recv (m.data ++ (pcAt s n cuts k).data) n ((m.next + 1) % 4) := by
      unfold stepM
      rw [ep, ef, en]
      simp
    rw [e, hm']
    dsimp only
    by_cases hl : k < cuts.length
    · have h2 := fr_at h (k := k + 1) (by omega) (by omega)
      have h3 := fr_le h (k := k) (by omega)
      have ed : (pcAt s n cuts k).data = (sealG (s.extract 0 (fr cuts (k + 1))) unf).extract (fr cuts k) (fr cuts (k + 1) + 4) := by
        unfold pcAt
        dsimp only
        rw [if_pos hl]
      rw [ed, join_mid s _ _ (by omega) (by omega) unf, recv_mark s _ n _ (by omega) (by omega), if_neg (by omega)]
      unfold stK
      rw [if_neg (by omega)]
      have : ((((k - 1) % 4 : Nat) : Int) + 1) % 4 = (((k + 1 - 1) % 4 : Nat) : Int) := by omega
      rw [this]
    · have ed : (pcAt s n cuts k).data = s.extract (fr cuts k) s.size := by
        unfold pcAt
        dsimp only
        rw [if_neg hl]
      rw [ed, join_end s _, recv_good s n _ hh h.good, if_pos (by omega)]
      unfold stK
      rw [if_pos (by omega)]
theorem join_any {k : Nat} (hk : k ≤ cuts.length) (m : Mg) (hok : m.okB = true) (hm : k = 0 ∨ m = stK s n cuts k) : joinM m (pcAt s n cuts k) = stK s n cuts (k + 1) ∧ joinS m (pcAt s n cuts k) = (if k = cuts.length then s else ⟨#[]⟩) ∧ joinE m (pcAt s n cuts k) = 0 := by
  have hp := pc_ok h hk
  have hs := stepM_any h hk m hm
  unfold joinM joinS joinE errP
  rw [hok, hp, hs]
  exact ⟨rfl, rfl, rfl⟩
end
theorem recv_ok (d : ByteArray) (n x : Int) (hn : 0 ≤ n ∧ n ≤ 3) (hx : 0 ≤ x ∧ x ≤ 3) (hd : 64 ≤ d.size) : (recv d n x).1.okB = true := by
  unfold recv
  split
  · exact zero_ok
  · split
    · exact zero_ok
    · split
      · refine okM_iff.2 (.inr ⟨rfl, hn, hx, ?_⟩)
        dsimp only
        rw [ByteArray.size_extract]
        omega
      · exact zero_ok
theorem joinM_ok (m : Mg) (p : Pc) : (joinM m p).okB = true := by
  unfold joinM
  split
  · rename_i h
    rw [Bool.and_eq_true] at h
    have hp := okP_iff.1 h.2
    have hm := okM_iff.1 h.1
    unfold stepM
    split
    · exact recv_ok _ _ _ hp.1 (by omega) hp.2.2.2.1
    · split
      · exact recv_ok _ _ _ hp.1 (by omega) (by rw [ByteArray.size_append]; omega)
      · exact zero_ok
  · exact zero_ok
end Go.Proofs.Ytgejpbgpgklimaa
