/- What is read of an encoding that something surrounds, and what Put and PutSigned make of an integer within the limits. Nothing is said of the program here. -/
import Derived.Test.YtgejpbgpgklimaaWSigned
import Derived.Test.YtgejpbgpgklimaaWPut2
namespace Go.Proofs.Ytgejpbgpgklimaa
open Go

theorem app_list (s e r : ByteArray) : (s ++ e ++ r).data.toList = s.data.toList ++ (e.data.toList ++ r.data.toList) := by
  simp [ByteArray.data_append]
theorem bytes_ext {a b : ByteArray} (h : a.data.toList = b.data.toList) : a = b := by
  apply ByteArray.ext
  exact Array.toList_inj.1 h
theorem extract_listB (s : ByteArray) (i j : Nat) : (s.extract i j).data.toList = (s.data.toList.drop i).take (j - i) := by
  have : s = ⟨s.data.toList.toArray⟩ := by simp
  rw [this, ByteArray.extract_mk]
theorem list_length (s : ByteArray) : s.data.toList.length = s.size := rfl
theorem app_size (s e r : ByteArray) : (s ++ e ++ r).size = s.size + e.size + r.size := by simp [ByteArray.size_append]

theorem back_mid (s e r : ByteArray) (k : Nat) (hk : e.size = k) : (s ++ e ++ r).extract s.size (s.size + k) = e := by
  apply bytes_ext
  rw [extract_listB, app_list]
  have h1 : s.data.toList.length = s.size := rfl
  have h2 : e.data.toList.length = k := hk
  rw [List.drop_append_of_le_length (by omega), List.drop_of_length_le (by omega), List.nil_append, List.take_append_of_le_length (by omega), List.take_of_length_le (by omega)]
theorem back_first (s e r : ByteArray) : (s ++ e ++ r).extract 0 s.size = s := by
  apply bytes_ext
  rw [extract_listB, app_list]
  have h1 : s.data.toList.length = s.size := rfl
  rw [List.drop_zero, List.take_append_of_le_length (by omega), List.take_of_length_le (by omega)]
theorem back_end (s e : ByteArray) : (s ++ e).extract s.size (s ++ e).size = e := by
  apply bytes_ext
  rw [extract_listB, ByteArray.data_append]
  have h1 : s.data.toList.length = s.size := rfl
  have h2 : e.data.toList.length = e.size := rfl
  simp only [Array.toList_append]
  rw [ByteArray.size_append, List.drop_append_of_le_length (by omega), List.drop_of_length_le (by omega), List.nil_append, List.take_of_length_le (by omega)]

theorem back_has (s e r : ByteArray) (k : Int) (hk : (e.size : Int) = k) : hasB (s ++ e ++ r) s.size k = true := by
  rw [has_iff, app_size]
  omega
theorem back_fieldE (s e r : ByteArray) (k : Int) (hk : (e.size : Int) = k) : fieldE (s ++ e ++ r) s.size k = 0 := field_ok _ _ _ (by omega) (by omega) (back_has s e r k hk)
theorem back_fieldS (s e r : ByteArray) (k : Int) (hk : (e.size : Int) = k) : fieldS (s ++ e ++ r) s.size k = e := by
  rw [fieldS_ok (back_fieldE s e r k hk)]
  rw [show ((s.size : Int)).toNat = s.size by omega, show ((s.size : Int) + k).toNat = s.size + k.toNat by omega]
  exact back_mid s e r k.toNat (by omega)
theorem back_pc (s e r : ByteArray) (k : Int) (hk : (e.size : Int) = k) : pc (s ++ e ++ r) s.size k = e.data.toList := by
  unfold pc
  have := back_fieldS s e r k hk
  rw [fieldS_ok (back_fieldE s e r k hk)] at this
  rw [this]
theorem front_fieldE (s e r : ByteArray) : fieldE (s ++ e ++ r) 0 s.size = 0 := field_ok _ _ _ (by omega) (by omega) (by rw [has_iff, app_size]; omega)
theorem front_fieldS (s e r : ByteArray) : fieldS (s ++ e ++ r) 0 s.size = s := by
  rw [fieldS_ok (front_fieldE s e r)]
  rw [show (0 : Int).toNat = 0 from rfl, show ((0 : Int) + s.size).toNat = s.size by omega]
  exact back_first s e r

theorem enc_size (n k : Int) (hk : 0 ≤ k) : ((encS n k.toNat).size : Int) = k := by rw [encS_size]; omega
theorem back_get (s r : ByteArray) (n k : Int) (hk : 1 ≤ k ∧ k ≤ 7) (hn : 0 ≤ n ∧ n < 256 ^ k.toNat) : getE (s ++ encS n k.toNat ++ r) s.size k = 0 ∧ getV (s ++ encS n k.toNat ++ r) s.size k = n := by
  have he : getE (s ++ encS n k.toNat ++ r) s.size k = 0 := by unfold getE; rw [if_pos hk]; exact back_fieldE _ _ _ _ (enc_size n k (by omega))
  refine ⟨he, ?_⟩
  unfold getV
  rw [if_pos he, back_pc _ _ _ _ (enc_size n k (by omega)), encS_list, vl_enc]
  exact Int.emod_eq_of_lt hn.1 hn.2
theorem back_getSigned (s r : ByteArray) (n k : Int) (hk : 1 ≤ k ∧ k ≤ 8) (hn : -(256 ^ k.toNat) ≤ 2 * n ∧ 2 * n < 256 ^ k.toNat) : sgetE (s ++ encS n k.toNat ++ r) s.size k = 0 ∧ sgetV (s ++ encS n k.toNat ++ r) s.size k = n := by
  have he : sgetE (s ++ encS n k.toNat ++ r) s.size k = 0 := by unfold sgetE; rw [if_pos hk]; exact back_fieldE _ _ _ _ (enc_size n k (by omega))
  refine ⟨he, ?_⟩
  unfold sgetV
  rw [if_pos he, back_pc _ _ _ _ (enc_size n k (by omega)), encS_list, vl_enc]
  exact sg_mod hn
theorem put_within (s : ByteArray) (n k : Int) (hk : 1 ≤ k ∧ k ≤ 7) (hn : 0 ≤ n ∧ n < 256 ^ k.toNat) : putE n k = 0 ∧ putS s n k = s ++ encS n k.toNat := by
  have ho : putOk n k.toNat false = true := by
    unfold putOk limF
    simp only [Bool.false_eq_true, if_false, decide_eq_true_eq]
    omega
  unfold putE putS putR putC
  refine ⟨?_, ?_⟩ <;> (rw [if_pos (by omega), ho]; rfl)
theorem putSigned_within (s : ByteArray) (n k : Int) (hk : 1 ≤ k ∧ k ≤ 8) (hn : -(256 ^ k.toNat) ≤ 2 * n ∧ 2 * n < 256 ^ k.toNat) : sputE n k = 0 ∧ sputS s n k = s ++ encS n k.toNat := by
  have ho : putOk n k.toNat true = true := by
    unfold putOk limF
    obtain ⟨H, hP, hH⟩ := even_pow k.toNat (by omega)
    rw [hP] at hn
    simp only [if_true, decide_eq_true_eq, hP]
    omega
  unfold sputE sputS putR putC
  refine ⟨?_, ?_⟩ <;> (rw [if_pos (by omega), ho]; rfl)
end Go.Proofs.Ytgejpbgpgklimaa
