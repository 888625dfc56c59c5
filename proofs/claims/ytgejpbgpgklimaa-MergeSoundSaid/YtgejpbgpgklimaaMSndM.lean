/- What Join returns, whatever came. Nothing is said of the program here. -/
import Derived.Test.YtgejpbgpgklimaaMBackM
import Derived.Lib.Strings
namespace Go.Proofs.Ytgejpbgpgklimaa
open Go Go.RowKit

theorem suffix_app (a b : List UInt8) : Lib.hasSuffix (a ++ b) b = true := by
  unfold Lib.hasSuffix
  rw [List.isSuffixOf_iff_suffix]
  exact List.suffix_append a b
theorem recv_frame (d : ByteArray) (n x : Int) : (recv d n x).2 = ⟨#[]⟩ ∨ ((recv d n x).2 = d ∧ d.size ≤ 1522 ∧ goodS d 0#32 = true) := by
  unfold recv
  by_cases h1 : 1522 < d.size
  · rw [if_pos h1]; exact .inl rfl
  · rw [if_neg h1]
    by_cases h2 : goodS d 0#32 = true
    · rw [if_pos h2]; exact .inr ⟨rfl, by omega, h2⟩
    · rw [if_neg h2]
      by_cases h3 : goodS d unf = true
      · rw [if_pos h3]; exact .inl rfl
      · rw [if_neg h3]; exact .inl rfl
theorem join_frame {m : Mg} {p : Pc} {s : ByteArray} (hS : joinS m p = s) : s = ⟨#[]⟩ ∨ (goodS s 0#32 = true ∧ 64 ≤ s.size ∧ s.size ≤ 1522 ∧ Lib.hasSuffix s.data.toList p.data.data.toList = true) := by
  subst hS
  unfold joinS
  by_cases hok : (m.okB && p.okB) = true
  · rw [if_pos hok]
    have hp := (okP_iff.1 (Bool.and_eq_true _ _ ▸ hok).2).2.2.2
    unfold stepM
    by_cases h1 : p.st = true
    · rw [if_pos h1]
      rcases recv_frame p.data p.num 0 with h | ⟨h, h2, h3⟩
      · exact .inl h
      · rw [h]
        exact .inr ⟨h3, hp.1, h2, by have := suffix_app [] p.data.data.toList; rwa [List.nil_append] at this⟩
    · rw [if_neg h1]
      by_cases h2 : fitsB m p = true
      · rw [if_pos h2]
        rcases recv_frame (m.data ++ p.data) p.num ((m.next + 1) % 4) with h | ⟨h, h3, h4⟩
        · exact .inl h
        · rw [h]
          refine .inr ⟨h4, ?_, h3, ?_⟩
          · rw [ByteArray.size_append]; omega
          · rw [ByteArray.data_append, Array.toList_append]
            exact suffix_app _ _
      · rw [if_neg h2]
        exact .inl rfl
  · rw [if_neg hok]
    exact .inl rfl
theorem join_ends {m : Mg} {p : Pc} (hm : m.okB = true) : joinE m p = 0 ∨ (joinE m p = 181 ∧ joinM m p = zeroM ∧ joinS m p = ⟨#[]⟩) := by
  unfold joinE joinM joinS errP
  rw [if_pos hm]
  cases h : p.okB
  · rw [hm]; exact .inr ⟨rfl, rfl, rfl⟩
  · exact .inl rfl
theorem join_start {m : Mg} {p : Pc} (hm : m.okB = true) (h : p.st = true) : joinM zeroM p = joinM m p ∧ joinS zeroM p = joinS m p ∧ joinE zeroM p = joinE m p := by
  have e : stepM zeroM p = stepM m p := by unfold stepM; rw [if_pos h, if_pos h]
  unfold joinM joinS joinE
  rw [hm, zero_ok, e]
  exact ⟨rfl, rfl, rfl⟩
end Go.Proofs.Ytgejpbgpgklimaa
