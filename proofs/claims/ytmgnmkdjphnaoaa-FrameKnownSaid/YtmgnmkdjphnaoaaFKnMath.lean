/- Strings that encode no frame, and the frames of the last examples. Nothing is said of the program here. -/
import Derived.Test.YtmgnmkdjphnaoaaFSpec
namespace Go.Proofs.Ytmgnmkdjphnaoaa
open Go Go.RowKit

def knHead : ByteArray := ⟨#[0, 0, 0, 0, 0, 1, 0, 0, 0, 0, 0, 2]⟩
theorem bad_1 : badB (sealG ((knHead ++ ⟨#[5, 221]⟩ ++ repS 0 60).extract 0 60) 0#32) = true := by kernel_rfl
theorem bad_2 : badB (sealG ((knHead ++ ⟨#[5, 255]⟩ ++ repS 0 60).extract 0 60) 0#32) = true := by kernel_rfl
theorem bad_3 : badB (sealG ((knHead ++ ⟨#[0, 0, 1]⟩ ++ repS 0 60).extract 0 60) 0#32) = true := by kernel_rfl
theorem bad_4 : badB (sealG ((knHead ++ ⟨#[129, 0, 15, 255, 8, 0]⟩ ++ repS 0 60).extract 0 60) 0#32) = true := by kernel_rfl
theorem bad_5 : badB (sealG ((knHead ++ ⟨#[129, 0, 16, 0, 8, 0]⟩ ++ repS 0 60).extract 0 60) 0#32) = true := by kernel_rfl
theorem bad_6 : badB (sealG ((knHead ++ ⟨#[241, 193, 0, 1, 0, 0, 8, 0]⟩ ++ repS 0 60).extract 0 60) 0#32) = true := by kernel_rfl
theorem bad_7 : badB (sealG ((knHead ++ ⟨#[129, 0, 0, 1, 129, 0]⟩ ++ repS 0 60).extract 0 60) 0#32) = true := by kernel_rfl
theorem bad_8 : badB ⟨#[]⟩ = true := by kernel_rfl
theorem bad_9 : badB (sealG ((repS 0 60).extract 0 59) 0#32) = true := by kernel_rfl
theorem bad_10 : badB (sealG (knHead ++ ⟨#[0, 0]⟩ ++ repS 0 60) 0#32) = true := by kernel_rfl
theorem bad_long (x : ByteArray) (hx : x.size = 1501) : badB (sealG (knHead ++ ⟨#[8, 0]⟩ ++ x) 0#32) = true := by
  obtain ⟨ck, hck⟩ : ∃ ck : ByteArray, sealG (knHead ++ ⟨#[8, 0]⟩ ++ x) 0#32 = knHead ++ ⟨#[8, 0]⟩ ++ x ++ ck := ⟨_, rfl⟩
  have hsz := sealG_size (knHead ++ ⟨#[8, 0]⟩ ++ x) 0#32
  generalize sealG (knHead ++ ⟨#[8, 0]⟩ ++ x) 0#32 = s at *
  have hz : s.size = 1519 := by
    rw [hsz, ByteArray.size_append, ByteArray.size_append, hx]
    rfl
  have e8 : (⟨#[8, 0]⟩ : ByteArray) = encS 2048 2 := by kernel_rfl
  have hk : getV s 12 2 = 2048 := get_at (s := s) (pre := knHead) (post := x ++ ck) (n := 2048) (k := 2) (a := 12) (by rw [hck, e8]; simp only [ByteArray.append_assoc]) rfl (by omega) (by omega)
  have h1 : cd1 s = (false, 0, 0, 12) := by unfold cd1; rw [hk]; rfl
  have h2 : cd2 s 12 = (false, 0, 12) := by unfold cd2; rw [show ((12 : Nat) : Int) = 12 from rfl, hk]; rfl
  have h3 : (cd3 s 12).2.size = 1501 := by
    unfold cd3
    rw [show ((12 : Nat) : Int) = 12 from rfl, hk, if_pos (by omega)]
    show (s.extract (12 + 2) (s.size - 4)).size = 1501
    rw [ByteArray.size_extract, hz]
    rfl
  have hd : (cand s).ok = false := by
    cases h : (cand s).ok with
    | false => rfl
    | true =>
      have := ok_data _ h
      unfold cand at this
      rw [h1] at this
      dsimp only at this
      rw [h2] at this
      dsimp only at this
      omega
  unfold badB
  rw [dec_eq]
  unfold decR
  rw [if_neg (by omega), if_neg (by rw [hd]; simp)]
  rfl

/-- The widest frame: 1494 octets of data behind both tags. -/
theorem full_ok (y : ByteArray) (h : y.size = 1494) : Frm.ok ⟨281474976710655, 281474976710655, true, 7, 4094, true, 65535, 65535, y⟩ = true := by
  rw [ok_iff]
  unfold only
  dsimp only
  refine ⟨by omega, ⟨by simp, by simp, by simp⟩, by omega, ?_⟩
  rw [h]
  simp
theorem full_wire (y : ByteArray) (h : y.size = 1494) : Frm.wire ⟨281474976710655, 281474976710655, true, 7, 4094, true, 65535, 65535, y⟩ = 1542 := by
  unfold Frm.wire
  rw [full_ok y h, if_pos rfl, enc_sz, hd_size]
  dsimp only
  rw [h]
  rfl
theorem full_dec (y : ByteArray) (h : y.size = 1494) : decP (Frm.enc ⟨281474976710655, 281474976710655, true, 7, 4094, true, 65535, 65535, y⟩) = some ⟨281474976710655, 281474976710655, true, 7, 4094, true, 65535, 65535, y⟩ := by
  rw [dec_enc (full_ok y h)]
  unfold Frm.long
  rw [hd_size]
  dsimp only
  rw [h, if_neg (by omega), show 60 - (14 + (if true = true then 4 else 0) + (if true = true then 6 else 0) + 1494) = 0 from rfl, show zeros 0 = ⟨#[]⟩ from rfl, add_nil]
theorem zero_ok : Frm.ok ⟨0, 0, false, 0, 0, false, 0, 0, ⟨#[]⟩⟩ = true := by kernel_rfl
theorem zero_wire : Frm.wire ⟨0, 0, false, 0, 0, false, 0, 0, ⟨#[]⟩⟩ = 84 := by
  unfold Frm.wire
  rw [zero_ok, if_pos rfl, enc_sz, hd_size]
  rfl
theorem zero_dec : decP (Frm.enc ⟨0, 0, false, 0, 0, false, 0, 0, ⟨#[]⟩⟩) = some ⟨0, 0, false, 0, 0, false, 0, 0, ⟨#[]⟩⟩ := by
  rw [dec_enc zero_ok]
  rfl

/-- The twelve frames that break a rule, as they are filled one after another. -/
def knB (hx : ByteArray) : Frm := ⟨1, 2, false, 0, 0, false, 0, 2048, hx⟩
def kn9 (hx : ByteArray) : Nat → Frm
  | 0 => ⟨-1, 2, false, 0, 0, false, 0, 2048, hx⟩
  | 1 => ⟨281474976710656, 2, false, 0, 0, false, 0, 2048, hx⟩
  | 2 => ⟨1, 281474976710656, false, 0, 0, false, 0, 2048, hx⟩
  | 3 => ⟨1, 2, false, 0, 0, false, 0, 65536, hx⟩
  | 4 => ⟨1, 2, true, 8, 0, false, 0, 2048, hx⟩
  | 5 => ⟨1, 2, true, 0, 4095, false, 0, 2048, hx⟩
  | 6 => ⟨1, 2, false, 1, 0, false, 0, 2048, hx⟩
  | _ => ⟨1, 2, false, 0, 0, false, 0, 2048, hx⟩
def kn10 (hx xa : ByteArray) : Nat → Frm
  | 7 => ⟨1, 2, false, 0, 0, false, 1, 2048, hx⟩
  | 8 => ⟨1, 2, false, 0, 0, true, 65536, 2048, hx⟩
  | 9 => ⟨1, 2, false, 0, 0, false, 0, 61889, hx⟩
  | 10 => ⟨1, 2, false, 0, 0, false, 0, 2048, xa⟩
  | i => kn9 hx i
def kn11 (hx xa xb : ByteArray) : Nat → Frm
  | 11 => ⟨1, 2, false, 0, 0, true, 0, 2048, xb⟩
  | i => kn10 hx xa i
theorem ok_ad {f : Frm} (h : adB f.dst f.src = false) : f.ok = false := by unfold Frm.ok; rw [h]; rfl
theorem ok_tg {f : Frm} (h : tgB f.tag f.prio f.vid f.sq f.seq = false) : f.ok = false := by unfold Frm.ok; rw [h, Bool.and_false]; rfl
theorem ok_ty {f : Frm} (h : tyB f.ty = false) : f.ok = false := by unfold Frm.ok; rw [h, Bool.and_false]; rfl
theorem ok_sz {f : Frm} (h : szB f.sq f.data.size = false) : f.ok = false := by unfold Frm.ok; rw [h, Bool.and_false]
theorem kn_bad (hx xa xb : ByteArray) (ha : xa.size = 1501) (hb : xb.size = 1495) (i : Nat) (hi : i < 12) : (kn11 hx xa xb i).ok = false := by
  have : i = 0 ∨ i = 1 ∨ i = 2 ∨ i = 3 ∨ i = 4 ∨ i = 5 ∨ i = 6 ∨ i = 7 ∨ i = 8 ∨ i = 9 ∨ i = 10 ∨ i = 11 := by omega
  rcases this with rfl | rfl | rfl | rfl | rfl | rfl | rfl | rfl | rfl | rfl | rfl | rfl
  · exact ok_ad rfl
  · exact ok_ad rfl
  · exact ok_ad rfl
  · exact ok_ty rfl
  · exact ok_tg rfl
  · exact ok_tg rfl
  · exact ok_tg rfl
  · exact ok_tg rfl
  · exact ok_tg rfl
  · exact ok_ty rfl
  · exact ok_sz (by show szB false xa.size = false; rw [ha]; rfl)
  · exact ok_sz (by show szB true xb.size = false; rw [hb]; rfl)
theorem wire_no {f : Frm} (h : f.ok = false) : f.wire = 0 := by unfold Frm.wire; rw [h]; rfl
def hs7 : List ByteArray := [⟨#[5, 221]⟩, ⟨#[5, 255]⟩, ⟨#[0, 0, 1]⟩, ⟨#[129, 0, 15, 255, 8, 0]⟩, ⟨#[129, 0, 16, 0, 8, 0]⟩, ⟨#[241, 193, 0, 1, 0, 0, 8, 0]⟩, ⟨#[129, 0, 0, 1, 129, 0]⟩]
theorem hs7_bad (h : ByteArray) (hh : h ∈ hs7) : badB (sealG ((knHead ++ h ++ repS 0 60).extract 0 60) 0#32) = true ∧ h.size ≤ 8 := by
  simp only [hs7, List.mem_cons, List.not_mem_nil, or_false] at hh
  rcases hh with rfl | rfl | rfl | rfl | rfl | rfl | rfl
  · exact ⟨bad_1, by decide⟩
  · exact ⟨bad_2, by decide⟩
  · exact ⟨bad_3, by decide⟩
  · exact ⟨bad_4, by decide⟩
  · exact ⟨bad_5, by decide⟩
  · exact ⟨bad_6, by decide⟩
  · exact ⟨bad_7, by decide⟩
end Go.Proofs.Ytmgnmkdjphnaoaa
