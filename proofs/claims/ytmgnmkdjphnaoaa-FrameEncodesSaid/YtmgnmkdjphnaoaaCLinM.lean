/- Three strings joined by exclusive or. Nothing is said of the program here but how a row made is read. -/
import Derived.Test.YtmgnmkdjphnaoaaCSlice
import Derived.Laws.IdiomStrings
import Derived.OwnWalk
namespace Go.Proofs.Ytmgnmkdjphnaoaa
open Go Go.RowKit

def xorO (a b c : List UInt8) (j : Nat) : UInt8 := (a.getD j 0 ^^^ b.getD j 0) ^^^ c.getD j 0
/-- The row when k octets are filled. -/
def xorK (a b c : List UInt8) (n k : Nat) : List UInt8 := (List.range n).map fun j => if j < k then xorO a b c j else 0
theorem xorK_length (a b c n k) : (xorK a b c n k).length = n := by simp [xorK]
theorem xorK_get (a b c : List UInt8) (n k j : Nat) (h : j < n) : (xorK a b c n k)[j]? = some (if j < k then xorO a b c j else 0) := by simp [xorK, h]
theorem xorK_zero (a b c n) : xorK a b c n 0 = List.replicate n 0 := by
  apply List.ext_getElem?
  intro j
  by_cases h : j < n
  · rw [xorK_get _ _ _ _ _ _ h]; simp [h]
  · rw [List.getElem?_eq_none (by rw [xorK_length]; omega), List.getElem?_eq_none (by simp; omega)]
theorem xorK_set (a b c : List UInt8) (n k : Nat) : (xorK a b c n k).set k (xorO a b c k) = xorK a b c n (k + 1) := by
  apply List.ext_getElem?
  intro j
  by_cases h : j < n
  · rw [xorK_get _ _ _ _ _ _ h]
    by_cases e : k = j
    · subst e
      rw [List.getElem?_set_self (by rw [xorK_length]; exact h)]
      simp
    · rw [List.getElem?_set_ne e, xorK_get _ _ _ _ _ _ h]
      by_cases h2 : j < k
      · simp [h2, show j < k + 1 by omega]
      · simp [h2, show ¬ j < k + 1 by omega]
  · rw [List.getElem?_eq_none (by rw [List.length_set, xorK_length]; omega), List.getElem?_eq_none (by rw [xorK_length]; omega)]
theorem xorK_bit (a b c : List UInt8) (n : Nat) (i : Nat) : bitAt (xorK a b c n n) i = ((bitAt (a.take n) i ^^ bitAt (b.take n) i) ^^ bitAt (c.take n) i) := by
  unfold bitAt
  by_cases h : i / 8 < n
  · have e : (xorK a b c n n).getD (i / 8) 0 = xorO a b c (i / 8) := by
      rw [List.getD, xorK_get _ _ _ _ _ _ h]; simp [h]
    have t : ∀ l : List UInt8, (l.take n).getD (i / 8) 0 = l.getD (i / 8) 0 := fun l => by simp [List.getD, h]
    rw [e, t, t, t]
    unfold xorO
    rw [UInt8.toNat_xor, UInt8.toNat_xor, Nat.testBit_xor, Nat.testBit_xor]
  · have e : (xorK a b c n n).getD (i / 8) 0 = 0 := by
      rw [List.getD, List.getElem?_eq_none (by rw [xorK_length]; omega)]; rfl
    have t : ∀ l : List UInt8, (l.take n).getD (i / 8) 0 = 0 := fun l => by simp [List.getD, List.getElem?_take, h]
    rw [e, t, t, t]
    simp
theorem xorO_val (x y z : UInt8) : bits .xor .u8 (bits .xor .u8 (x.toNat : Int) (y.toNat : Int)) (z.toNat : Int) = (((x ^^^ y) ^^^ z).toNat : Int) := by
  rw [u8_xor_nat _ _ x.toNat_lt y.toNat_lt, u8_xor_nat _ _ (xor_lt_256 x.toNat_lt y.toNat_lt) z.toNat_lt, UInt8.toNat_xor, UInt8.toNat_xor]

/-- A row that make has laid. -/
theorem bytes_made {w : World} {base g n : Nat} {e : TypeId} (h : w.ownsRow base e 1 (.slice (some ⟨g, 0, none⟩) n n) n (madeCells #[.int .u8 0] (n * 1)).toList) : base ≤ g ∧ BytesAt w g (List.replicate n 0) := by
  obtain ⟨_, h | ⟨g', cap, cur, hv, hbg, hg, hn, _, hcs, hx⟩⟩ := h
  · cases h.1
  · cases hv
    refine ⟨hbg, ⟨fun j hj => ?_, fun j _ => frozen_of_row w g j cur e hg⟩⟩
    have hj' : j < n := by simpa using hj
    rw [cell_of_row w g j cur e (0, 0) hg]
    have := congrArg (fun l : List Value => l[j]?) hx
    simp only [Nat.mul_one, List.getElem?_take, hj', if_true] at this
    rw [← Array.getElem?_toList, this]
    simp [madeCells, hj', List.getD, Nat.mod_one]
theorem BytesAt.keep {w w' : World} {b : Nat} {l : List UInt8} (h : BytesAt w b l) (k : Keep w w') : BytesAt w' b l :=
  ⟨fun j hj => k.some (h.cell j hj), fun j hj => (k.frozen (cellBlock (h.cell j hj))).trans (h.free j hj)⟩
theorem bytes_back {w : World} {b : Nat} {l : List UInt8} (h : BytesAt w b l) (n : Nat) (hn : l.length = n) : (convert 28 9 (.slice (some ⟨b, 0, none⟩) n n)).run Try.prog w = .ok (.string ⟨l.toArray⟩) w := by
  subst hn
  exact run_convert_bytes_back (P := Try.prog) w 28 9 5 ⟨b, 0, none⟩ _ l Try.underlying28 Try.underlying5 Try.underlying9 (fun j hj => by
    have hadd : (⟨b, 0, none⟩ : Addr).add j = ⟨b, j, none⟩ := by unfold Addr.add; split <;> simp_all
    rw [hadd, h.cell j hj]
    simp [List.getD, hj])
theorem infoU8 : (Try.prog.info? 5).map (fun i => (i.zero, i.size, i.bytes)) = some (some (.int .u8 0), 1, 1) := by kernel_rfl
end Go.Proofs.Ytmgnmkdjphnaoaa
