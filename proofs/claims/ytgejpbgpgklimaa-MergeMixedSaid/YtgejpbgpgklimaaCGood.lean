/- What Seal, Mark, Good and Marked return, the package's and the reference's. -/
import Derived.Test.YtgejpbgpgklimaaCRef
namespace Go.Proofs.Ytgejpbgpgklimaa
open Go Go.RowKit

/-- What changes the check octets of a marked string. -/
def unf : BitVec 32 := 4294901760#32
theorem cv_unf : cv unf = 4294901760 := by decide
/-- A string followed by the check octets of its CRC, changed. -/
def sealG (s : ByteArray) (g : BitVec 32) : ByteArray := s ++ octS (cv (extB 0#32 s.data.toList ^^^ g))
theorem sealG_list (s g) : (sealG s g).data.toList = s.data.toList ++ chk s.data.toList g := by
  unfold sealG
  rw [ByteArray.data_append]
  simp [octS_list, chk]
theorem sealG_size (s g) : (sealG s g).size = s.size + 4 := by unfold sealG; rw [ByteArray.size_append, octS_size]
def goodS (s : ByteArray) (g : BitVec 32) : Bool := goodB s.data.toList g
theorem goodS_short {s : ByteArray} {g : BitVec 32} (h : s.size < 4) : goodS s g = false := by
  unfold goodS goodB
  rw [decide_eq_false_iff_not]
  rintro ⟨h1, _⟩
  simp at h1
  omega
theorem extract_list (s : ByteArray) (i j : Nat) : (s.extract i j).data.toList = (s.data.toList.drop i).take (j - i) := by
  have : s = ⟨s.data.toList.toArray⟩ := by simp
  rw [this, ByteArray.extract_mk]
theorem beq_bytes (a b : ByteArray) : (a.toList == b.toList) = decide (a.data.toList = b.data.toList) := by
  rw [ByteArray.toList_eq, ByteArray.toList_eq, Bool.eq_iff_iff, beq_iff_eq, decide_eq_true_iff]
theorem good_field (s : ByteArray) (g : BitVec 32) (h : 4 ≤ s.size) : ((s.extract (s.size - 4) s.size).toList == (octS (cv (extB 0#32 (s.extract 0 (s.size - 4)).data.toList ^^^ g))).toList) = goodS s g := by
  rw [beq_bytes, octS_list, extract_list, extract_list]
  have hl : s.data.toList.length = s.size := rfl
  unfold goodS goodB chk
  rw [hl, List.drop_zero, show s.size - (s.size - 4) = 4 by omega, Nat.sub_zero, List.take_of_length_le (by rw [List.length_drop]; omega)]
  apply decide_eq_decide.2
  exact ⟨fun e => ⟨h, e⟩, fun e => e.2⟩

set_option maxRecDepth 100000 in
theorem seal_is (s t : ByteArray) (w : World) (hs : s.size ≤ 100000) (H : Hid (sealG s 0#32 = t)) : Calls Try.prog 26 #[.string s] w (Res (.string t) w) := by
  obtain ⟨r, hr⟩ : ∃ r, cv (extB 0#32 s.data.toList) = r := ⟨_, rfl⟩
  obtain ⟨q, hq⟩ : ∃ q, octS r = q := ⟨_, rfl⟩
  have hb : 0 ≤ r ∧ r < 4294967296 := by rw [← hr]; exact cv_bd _
  have ht : s ++ q = t := by rw [← H.out]; unfold sealG; rw [BitVec.xor_zero, hr, hq]
  have hz : q.size = 4 := by rw [← hq, octS_size]
  have hm : s.size ≤ maxLen := by unfold maxLen; omega
  have HR := Lib.hid hr
  have HQ := Lib.hid hq
  have HM := Lib.hid hm
  clear hr hq hm
  go_enter Try.func26, Try.ntmps26
  go_wp2_with (first | (go_at_call 51; ((with_reducible refine (of_is r s _ HM.out HR).mono ?_); rintro e w1 ⟨rfl, k1⟩)) | (go_at_call 50; ((with_reducible refine (octets_is r q _ hb HQ).mono ?_); rintro e w2 ⟨rfl, k2⟩)))
  go_ret
  exact ⟨rfl, k1.trans k2⟩
set_option maxRecDepth 100000 in
theorem mark_is (s t : ByteArray) (w : World) (hs : s.size ≤ 100000) (H : Hid (sealG s unf = t)) : Calls Try.prog 27 #[.string s] w (Res (.string t) w) := by
  obtain ⟨r, hr⟩ : ∃ r, cv (extB 0#32 s.data.toList) = r := ⟨_, rfl⟩
  obtain ⟨r2, hr2⟩ : ∃ r2, cv (extB 0#32 s.data.toList ^^^ unf) = r2 := ⟨_, rfl⟩
  obtain ⟨q, hq⟩ : ∃ q, octS r2 = q := ⟨_, rfl⟩
  have hb : 0 ≤ r2 ∧ r2 < 4294967296 := by rw [← hr2]; exact cv_bd _
  have hx : bits .xor .u32 r 4294901760 = r2 := by rw [← hr, ← hr2, ← cv_unf, cv_xor]
  have ht : s ++ q = t := by rw [← H.out]; unfold sealG; rw [hr2, hq]
  have hz : q.size = 4 := by rw [← hq, octS_size]
  have hm : s.size ≤ maxLen := by unfold maxLen; omega
  have HR := Lib.hid hr
  have HQ := Lib.hid hq
  have HM := Lib.hid hm
  clear hr hq hm hr2
  go_enter Try.func27, Try.ntmps27
  go_wp2_with (first | (go_at_call 51; ((with_reducible refine (of_is r s _ HM.out HR).mono ?_); rintro e w1 ⟨rfl, k1⟩)) | (go_at_call 50; ((with_reducible refine (octets_is r2 q _ hb HQ).mono ?_); rintro e w2 ⟨rfl, k2⟩)))
  go_ret
  exact ⟨rfl, k1.trans k2⟩
set_option maxRecDepth 100000 in
theorem refSeal_is (s t : ByteArray) (w : World) (hs : s.size ≤ 100000) (H : Hid (sealG s 0#32 = t)) : Calls Try.prog 12 #[.string s] w (Res (.string t) w) := by
  obtain ⟨r, hr⟩ : ∃ r, cv (extB 0#32 s.data.toList) = r := ⟨_, rfl⟩
  obtain ⟨q, hq⟩ : ∃ q, octS r = q := ⟨_, rfl⟩
  have hb : 0 ≤ r ∧ r < 4294967296 := by rw [← hr]; exact cv_bd _
  have ht : s ++ q = t := by rw [← H.out]; unfold sealG; rw [BitVec.xor_zero, hr, hq]
  have hz : q.size = 4 := by rw [← hq, octS_size]
  have hm : s.size ≤ maxLen := by unfold maxLen; omega
  have HR := Lib.hid hr
  have HQ := Lib.hid hq
  have HM := Lib.hid hm
  clear hr hq hm
  go_enter Try.func12, Try.ntmps12
  go_wp2_with (first | (go_at_call 35; ((with_reducible refine (refOf_is r s _ HM.out HR).mono ?_); rintro e w1 ⟨rfl, k1⟩)) | (go_at_call 34; ((with_reducible refine (refOctets_is r q _ hb HQ).mono ?_); rintro e w2 ⟨rfl, k2⟩)))
  go_ret
  exact ⟨rfl, k1.trans k2⟩
set_option maxRecDepth 100000 in
theorem refMark_is (s t : ByteArray) (w : World) (hs : s.size ≤ 100000) (H : Hid (sealG s unf = t)) : Calls Try.prog 43 #[.string s] w (Res (.string t) w) := by
  obtain ⟨r, hr⟩ : ∃ r, cv (extB 0#32 s.data.toList) = r := ⟨_, rfl⟩
  obtain ⟨r2, hr2⟩ : ∃ r2, cv (extB 0#32 s.data.toList ^^^ unf) = r2 := ⟨_, rfl⟩
  obtain ⟨q, hq⟩ : ∃ q, octS r2 = q := ⟨_, rfl⟩
  have hb : 0 ≤ r2 ∧ r2 < 4294967296 := by rw [← hr2]; exact cv_bd _
  have hx : bits .xor .u32 r 4294901760 = r2 := by rw [← hr, ← hr2, ← cv_unf, cv_xor]
  have ht : s ++ q = t := by rw [← H.out]; unfold sealG; rw [hr2, hq]
  have hz : q.size = 4 := by rw [← hq, octS_size]
  have hm : s.size ≤ maxLen := by unfold maxLen; omega
  have HR := Lib.hid hr
  have HQ := Lib.hid hq
  have HM := Lib.hid hm
  clear hr hq hm hr2
  go_enter Try.func43, Try.ntmps43
  go_wp2_with (first | (go_at_call 35; ((with_reducible refine (refOf_is r s _ HM.out HR).mono ?_); rintro e w1 ⟨rfl, k1⟩)) | (go_at_call 34; ((with_reducible refine (refOctets_is r2 q _ hb HQ).mono ?_); rintro e w2 ⟨rfl, k2⟩)))
  go_ret
  exact ⟨rfl, k1.trans k2⟩
set_option maxRecDepth 100000 in
theorem checked_short (s : ByteArray) (g : Int) (w : World) (hs : s.size < 4) : Calls Try.prog 52 #[.string s, .int .u32 g] w (Res (.bool false) w) := by
  obtain ⟨n, hn⟩ : ∃ n : Int, (s.size : Int) = n := ⟨_, rfl⟩
  have h4 : n < 4 := by omega
  have h0 : 0 ≤ n := by omega
  have HE : Hid (fieldE s (n - 4) 4 = 2) := Lib.hid (field_bad _ _ _ (Or.inl (by omega)))
  have HV : Hid (fieldS s (n - 4) 4 = ⟨#[]⟩) := Lib.hid (fieldS_no (by rw [HE.out]; decide))
  have HM : Hid (s.size ≤ maxLen) := Lib.hid (by unfold maxLen; omega)
  have HA : Hid (I64 (n - 4)) := Lib.hid (by unfold I64; omega)
  have H4 : Hid (I64 4) := Lib.hid (by unfold I64; omega)
  go_enter Try.func52, Try.ntmps52
  go_wp2_with (go_at_call 67; ((with_reducible refine (field_is s (n - 4) 4 ⟨#[]⟩ 2 _ HM.out HA.out H4.out HV HE).mono ?_); rintro e w1 ⟨rfl, k1⟩))
  go_ret
  exact ⟨rfl, k1⟩
set_option maxRecDepth 100000 in
theorem checked_long (s : ByteArray) (g : BitVec 32) (G : Int) (b : Bool) (w : World) (hs : 4 ≤ s.size) (hm : s.size ≤ 100000) (hG : cv g = G) (H : Hid (goodS s g = b)) : Calls Try.prog 52 #[.string s, .int .u32 G] w (Res (.bool b) w) := by
  have hgf := good_field s g hs
  rw [H.out] at hgf
  obtain ⟨n, hn⟩ : ∃ n : Int, (s.size : Int) = n := ⟨_, rfl⟩
  obtain ⟨m, hmm⟩ : ∃ m, s.size - 4 = m := ⟨_, rfl⟩
  obtain ⟨p, hp⟩ : ∃ p, s.extract 0 m = p := ⟨_, rfl⟩
  obtain ⟨q, hq⟩ : ∃ q, s.extract m s.size = q := ⟨_, rfl⟩
  rw [hmm, hp, hq] at hgf
  obtain ⟨r, hr⟩ : ∃ r, cv (extB 0#32 p.data.toList) = r := ⟨_, rfl⟩
  obtain ⟨r2, hr2⟩ : ∃ r2, cv (extB 0#32 p.data.toList ^^^ g) = r2 := ⟨_, rfl⟩
  rw [hr2] at hgf
  obtain ⟨o, ho⟩ : ∃ o, octS r2 = o := ⟨_, rfl⟩
  rw [ho] at hgf
  have hb : 0 ≤ r2 ∧ r2 < 4294967296 := by rw [← hr2]; exact cv_bd _
  have hx : bits .xor .u32 r G = r2 := by rw [← hr, ← hr2, ← hG, cv_xor]
  have HR := Lib.hid hr
  have HO := Lib.hid ho
  have hnm : n - 4 = (m : Int) := by omega
  have HE : Hid (fieldE s (m : Int) 4 = 0) := Lib.hid (field_ok _ _ _ (by omega) (by omega) (by unfold hasB; exact decide_eq_true (by omega)))
  have HV : Hid (fieldS s (m : Int) 4 = q) := Lib.hid (by rw [fieldS_ok HE.out, show ((m : Int)).toNat = m by omega, show ((m : Int) + 4).toNat = s.size by omega, hq])
  have HM : Hid (s.size ≤ maxLen) := Lib.hid (by unfold maxLen; omega)
  have HP : Hid (p.size ≤ maxLen) := Lib.hid (by rw [← hp, ByteArray.size_extract]; unfold maxLen; omega)
  have HA : Hid (I64 (m : Int)) := Lib.hid (by unfold I64; omega)
  have H4 : Hid (I64 4) := Lib.hid (by unfold I64; omega)
  have hml : (m : Int) ≤ n := by omega
  have hn1 : n ≤ 100000 := by omega
  have hn0 : 4 ≤ n := by omega
  clear hr hr2 ho hq hG hmm hm
  go_enter Try.func52, Try.ntmps52
  go_wp2_with (first | (go_at_call 67; ((with_reducible refine (field_is s (m : Int) 4 q 0 _ HM.out HA.out H4.out HV HE).mono ?_); rintro e w1 ⟨rfl, k1⟩)) | (go_at_call 51; ((with_reducible refine (of_is r p _ HP.out HR).mono ?_); rintro e w2 ⟨rfl, k2⟩)) | (go_at_call 50; ((with_reducible refine (octets_is r2 o _ hb HO).mono ?_); rintro e w3 ⟨rfl, k3⟩)))
  go_ret
  exact ⟨rfl, (k1.trans k2).trans k3⟩
theorem checked_is (s : ByteArray) (g : BitVec 32) (G : Int) (b : Bool) (w : World) (hm : s.size ≤ 100000) (hG : cv g = G) (H : Hid (goodS s g = b)) : Calls Try.prog 52 #[.string s, .int .u32 G] w (Res (.bool b) w) := by
  by_cases h : s.size < 4
  · have := H.out
    rw [goodS_short h] at this
    subst this
    exact checked_short s G w h
  · exact checked_long s g G b w (by omega) hm hG H
set_option maxRecDepth 100000 in
theorem good_is (s : ByteArray) (b : Bool) (w : World) (hm : s.size ≤ 100000) (H : Hid (goodS s 0#32 = b)) : Calls Try.prog 28 #[.string s] w (Res (.bool b) w) := by
  have hz := Lib.hid cv_zero
  go_enter Try.func28, Try.ntmps28
  go_wp2_with (go_at_call 52; ((with_reducible refine (checked_is s 0#32 0 b _ hm hz.out H).mono ?_); rintro e w1 ⟨rfl, k1⟩))
  go_ret
  exact ⟨rfl, k1⟩
set_option maxRecDepth 100000 in
theorem marked_is (s : ByteArray) (b : Bool) (w : World) (hm : s.size ≤ 100000) (H : Hid (goodS s unf = b)) : Calls Try.prog 73 #[.string s] w (Res (.bool b) w) := by
  have hz := Lib.hid cv_unf
  go_enter Try.func73, Try.ntmps73
  go_wp2_with (go_at_call 52; ((with_reducible refine (checked_is s unf 4294901760 b _ hm hz.out H).mono ?_); rintro e w1 ⟨rfl, k1⟩))
  go_ret
  exact ⟨rfl, k1⟩
theorem seal_prefix (s : ByteArray) (g : BitVec 32) (h : 4 ≤ s.size) : ((sealG (s.extract 0 (s.size - 4)) g).toList == s.toList) = goodS s g := by
  rw [beq_bytes, sealG_list, extract_list, List.drop_zero, Nat.sub_zero]
  have hl : s.data.toList.length = s.size := rfl
  unfold goodS goodB
  rw [hl]
  apply decide_eq_decide.2
  constructor
  · intro e
    refine ⟨h, ?_⟩
    have e2 := congrArg (List.drop (s.size - 4)) e
    rw [List.drop_append_of_le_length (by rw [List.length_take]; omega), List.drop_of_length_le (by rw [List.length_take]; omega), List.nil_append] at e2
    exact e2.symm
  · rintro ⟨_, e⟩
    rw [← e, List.take_append_drop]
set_option maxRecDepth 100000 in
theorem refGood_is (s : ByteArray) (b : Bool) (w : World) (hm : s.size ≤ 100000) (H : Hid (goodS s 0#32 = b)) : Calls Try.prog 48 #[.string s] w (Res (.bool b) w) := by
  by_cases h : s.size < 4
  · have := H.out
    rw [goodS_short h] at this
    subst this
    go_enter Try.func48, Try.ntmps48
    go_wp2
    go_ret
    exact ⟨rfl, Keep.refl _⟩
  · have hgf := seal_prefix s 0#32 (by omega)
    rw [H.out] at hgf
    obtain ⟨p, hp⟩ : ∃ p, s.extract 0 (s.size - 4) = p := ⟨_, rfl⟩
    rw [hp] at hgf
    have hps : p.size ≤ 100000 := by rw [← hp, ByteArray.size_extract]; omega
    obtain ⟨t, ht⟩ : ∃ t, sealG p 0#32 = t := ⟨_, rfl⟩
    rw [ht] at hgf
    have HT := Lib.hid ht
    clear ht
    go_enter Try.func48, Try.ntmps48
    go_wp2_with (go_at_call 12; ((with_reducible refine (refSeal_is p t _ hps HT).mono ?_); rintro e w1 ⟨rfl, k1⟩))
    go_ret
    exact ⟨rfl, k1⟩
set_option maxRecDepth 100000 in
theorem refMarked_is (s : ByteArray) (b : Bool) (w : World) (hm : s.size ≤ 100000) (H : Hid (goodS s unf = b)) : Calls Try.prog 49 #[.string s] w (Res (.bool b) w) := by
  by_cases h : s.size < 4
  · have := H.out
    rw [goodS_short h] at this
    subst this
    go_enter Try.func49, Try.ntmps49
    go_wp2
    go_ret
    exact ⟨rfl, Keep.refl _⟩
  · have hgf := seal_prefix s unf (by omega)
    rw [H.out] at hgf
    obtain ⟨p, hp⟩ : ∃ p, s.extract 0 (s.size - 4) = p := ⟨_, rfl⟩
    rw [hp] at hgf
    have hps : p.size ≤ 100000 := by rw [← hp, ByteArray.size_extract]; omega
    obtain ⟨t, ht⟩ : ∃ t, sealG p unf = t := ⟨_, rfl⟩
    rw [ht] at hgf
    have HT := Lib.hid ht
    clear ht
    go_enter Try.func49, Try.ntmps49
    go_wp2_with (go_at_call 43; ((with_reducible refine (refMark_is p t _ hps HT).mono ?_); rintro e w1 ⟨rfl, k1⟩))
    go_ret
    exact ⟨rfl, k1⟩
end Go.Proofs.Ytgejpbgpgklimaa
