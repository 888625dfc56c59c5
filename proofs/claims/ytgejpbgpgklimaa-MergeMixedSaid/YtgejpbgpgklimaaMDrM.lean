/- Drafts of frames and cuts as data. Nothing is said of the program here. -/
import Derived.Test.YtgejpbgpgklimaaMCutM
namespace Go.Proofs.Ytgejpbgpgklimaa
open Go Go.RowKit

/-- Doubled until it has n octets. -/
def grow : Nat → ByteArray → Nat → ByteArray
  | 0, s, _ => s
  | f + 1, s, n => if s.size < n then grow f (s ++ s) n else s
theorem grow_done {s : ByteArray} {n : Nat} (h : n ≤ s.size) : ∀ f, grow f s n = s
  | 0 => rfl
  | f + 1 => by unfold grow; rw [if_neg (by omega)]
theorem grow_size : ∀ (f : Nat) (s : ByteArray) (n : Nat), n ≤ s.size * 2 ^ f → n ≤ (grow f s n).size
  | 0, s, n, h => by simpa [grow] using h
  | f + 1, s, n, h => by
    unfold grow
    split
    · refine grow_size f _ n ?_
      rw [ByteArray.size_append]
      rw [Nat.pow_succ] at h
      have : (s.size + s.size) * 2 ^ f = s.size * (2 ^ f * 2) := by rw [← Nat.two_mul, Nat.mul_comm 2 s.size, Nat.mul_assoc, Nat.mul_comm 2]
      omega
    · omega
def dash : ByteArray := ⟨#[45]⟩
def seedS (x : ByteArray) : ByteArray := x.extract 0 (min x.size 100) ++ dash
def lenD (L : Int) : Nat := 60 + (L % 1459).toNat
def bodyD (x : ByteArray) (L : Int) : ByteArray := (grow 11 (seedS x) (lenD L)).extract 0 (lenD L)
def frmD (x : ByteArray) (L : Int) : ByteArray := sealG (bodyD x L) 0#32
theorem seedS_size (x) : 1 ≤ (seedS x).size ∧ (seedS x).size ≤ 101 := by
  unfold seedS
  rw [ByteArray.size_append, ByteArray.size_extract]
  have : dash.size = 1 := rfl
  omega
theorem lenD_bd (L : Int) : 60 ≤ lenD L ∧ lenD L ≤ 1518 := by unfold lenD; omega
theorem seed_grow (x L) : lenD L ≤ (seedS x).size * 2 ^ 11 := by
  have h1 := (seedS_size x).1
  have h2 := (lenD_bd L).2
  have : 1 * 2 ^ 11 ≤ (seedS x).size * 2 ^ 11 := Nat.mul_le_mul_right _ h1
  omega
theorem bodyD_size (x L) : (bodyD x L).size = lenD L := by
  unfold bodyD
  have := grow_size 11 _ _ (seed_grow x L)
  rw [ByteArray.size_extract]
  omega
theorem frmD_size (x L) : (frmD x L).size = lenD L + 4 := by unfold frmD; rw [sealG_size, bodyD_size]
theorem goodS_seal (s : ByteArray) (g : BitVec 32) : goodS (sealG s g) g = true := by
  unfold goodS
  rw [sealG_list]
  exact good_chk _ _
theorem frmD_whole (x L) : wholeB (frmD x L) = true := by
  have := lenD_bd L
  refine wholeB_iff.2 ⟨?_, goodS_seal _ _⟩
  rw [frmD_size]
  omega

def lastTo (gs : List Int) : Nat → Int
  | 0 => 0
  | k + 1 => lastTo gs k + 60 + gs.getD k 0
/-- The offsets when k steps are done. -/
def offK (gs : List Int) (F : Int) : Nat → List Int
  | 0 => []
  | k + 1 => offK gs F k ++ (if lastTo gs (k + 1) ≤ F - 64 then [lastTo gs (k + 1)] else [])
def BytesL (gs : List Int) : Prop := ∀ j, 0 ≤ gs.getD j 0 ∧ gs.getD j 0 < 256
theorem lastTo_bd {gs : List Int} (h : BytesL gs) : ∀ k : Nat, 60 * (k : Int) ≤ lastTo gs k ∧ lastTo gs k ≤ 315 * k
  | 0 => by simp [lastTo]
  | k + 1 => by
    have h1 := lastTo_bd h k
    have h2 := h k
    unfold lastTo
    omega
theorem offK_length (gs : List Int) (F : Int) : ∀ k, (offK gs F k).length ≤ k
  | 0 => by simp [offK]
  | k + 1 => by
    have := offK_length gs F k
    unfold offK
    rw [List.length_append]
    split <;> simp <;> omega
theorem getD_app {l m : List Int} {j : Nat} (h : j < l.length) : (l ++ m).getD j 0 = l.getD j 0 := by
  simp [List.getD, List.getElem?_append_left h]
theorem frI_app {l m : List Int} {k : Nat} (h : k ≤ l.length) : frI (l ++ m) k = frI l k := by
  unfold frI
  split
  · rfl
  · exact getD_app (by omega)
theorem okTo_app (L : Int) (l m : List Int) : ∀ k, k ≤ l.length → okTo L (l ++ m) k = okTo L l k
  | 0, _ => rfl
  | k + 1, h => by
    unfold okTo
    rw [okTo_app L l m k (by omega), frI_app (by omega), getD_app (by omega)]
theorem offK_ok {gs : List Int} (hg : BytesL gs) (F : Int) : ∀ k, okCuts F (offK gs F k) = true ∧ frI (offK gs F k) (offK gs F k).length ≤ lastTo gs k
  | 0 => by simp [offK, okCuts, okTo, frI, lastTo]
  | k + 1 => by
    obtain ⟨h1, h2⟩ := offK_ok hg F k
    have h3 := hg k
    have h4 : lastTo gs (k + 1) = lastTo gs k + 60 + gs.getD k 0 := rfl
    unfold okCuts at h1 ⊢
    show okTo F (offK gs F k ++ _) (offK gs F k ++ _).length = true ∧ frI (offK gs F k ++ _) (offK gs F k ++ _).length ≤ _
    split
    · rw [List.length_append]
      show okTo F (offK gs F k ++ _) ((offK gs F k).length + 1) = true ∧ frI (offK gs F k ++ _) ((offK gs F k).length + 1) ≤ _
      have e : (offK gs F k ++ [lastTo gs (k + 1)]).getD (offK gs F k).length 0 = lastTo gs (k + 1) := by simp [List.getD]
      refine ⟨?_, ?_⟩
      · unfold okTo
        rw [okTo_app _ _ _ _ (Nat.le_refl _), h1, Bool.true_and, frI_app (Nat.le_refl _), inB_iff, e]
        omega
      · rw [frI_succ, e]
        exact Int.le_refl _
    · rw [List.append_nil]
      exact ⟨h1, by omega⟩
end Go.Proofs.Ytgejpbgpgklimaa
