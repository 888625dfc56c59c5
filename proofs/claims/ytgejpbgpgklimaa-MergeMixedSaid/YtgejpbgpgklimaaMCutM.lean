/- Cuts and pieces as data. Nothing is said of the program here. -/
import Derived.Test.YtgejpbgpgklimaaMDef
namespace Go.Proofs.Ytgejpbgpgklimaa
open Go Go.RowKit

/-- Where piece k begins. -/
def frI (cuts : List Int) (k : Nat) : Int := if k = 0 then 0 else cuts.getD (k - 1) 0
def fr (cuts : List Int) (k : Nat) : Nat := (frI cuts k).toNat
/-- Are the first k offsets allowed? -/
def okTo (L : Int) (cuts : List Int) : Nat → Bool
  | 0 => true
  | k + 1 => okTo L cuts k && inB (frI cuts k + 60) (cuts.getD k 0) (L - 64)
def okCuts (L : Int) (cuts : List Int) : Bool := okTo L cuts cuts.length
def cntAt (k : Nat) : Int := if k = 0 then 0 else (((k - 1) % 4 : Nat) : Int)
def pcAt (s : ByteArray) (n : Int) (cuts : List Int) (k : Nat) : Pc :=
  ⟨decide (k = 0), n, cntAt k, if k < cuts.length then (sealG (s.extract 0 (fr cuts (k + 1))) unf).extract (fr cuts k) (fr cuts (k + 1) + 4) else s.extract (fr cuts k) s.size⟩
def pcsK (s : ByteArray) (n : Int) (cuts : List Int) (k : Nat) : List Pc := (List.range k).map (pcAt s n cuts)
def pcsL (s : ByteArray) (n : Int) (cuts : List Int) : List Pc := pcsK s n cuts (cuts.length + 1)
def wholeB (s : ByteArray) : Bool := inB 64 s.size 1522 && goodS s 0#32
def cutE (s : ByteArray) (n : Int) (cuts : List Int) : Int := if wholeB s then (if inB 0 n 3 then (if okCuts s.size cuts then 0 else 180) else 2) else 5
def cutL (s : ByteArray) (n : Int) (cuts : List Int) : List Pc := if wholeB s && inB 0 n 3 && okCuts s.size cuts then pcsL s n cuts else []

theorem frI_succ (cuts : List Int) (k : Nat) : frI cuts (k + 1) = cuts.getD k 0 := by simp [frI]
theorem pcsK_succ (s n cuts k) : pcsK s n cuts (k + 1) = pcsK s n cuts k ++ [pcAt s n cuts k] := by simp [pcsK, List.range_succ]
theorem pcsK_length (s n cuts k) : (pcsK s n cuts k).length = k := by simp [pcsK]
theorem pcsL_length (s n cuts) : (pcsL s n cuts).length = cuts.length + 1 := pcsK_length _ _ _ _
theorem pcsK_get (s n cuts) (k j : Nat) (h : j < k) : (pcsK s n cuts k)[j]? = some (pcAt s n cuts j) := by simp [pcsK, h]
theorem pcsL_get (s n cuts) (j : Nat) (h : j < cuts.length + 1) : (pcsL s n cuts)[j]? = some (pcAt s n cuts j) := pcsK_get _ _ _ _ _ h
theorem okTo_fr {L : Int} {cuts : List Int} : ∀ {k : Nat}, okTo L cuts k = true → 60 * (k : Int) ≤ frI cuts k ∧ (frI cuts k ≤ L - 64 ∨ frI cuts k = 0)
  | 0, _ => by simp [frI]
  | k + 1, h => by
    unfold okTo at h
    rw [Bool.and_eq_true, inB_iff] at h
    have := (okTo_fr h.1).1
    rw [frI_succ]
    omega
theorem okTo_step {L : Int} {cuts : List Int} {k : Nat} (h : okTo L cuts (k + 1) = true) : okTo L cuts k = true ∧ frI cuts k + 60 ≤ frI cuts (k + 1) ∧ frI cuts (k + 1) ≤ L - 64 := by
  unfold okTo at h
  rw [Bool.and_eq_true, inB_iff] at h
  rw [frI_succ]
  exact h
theorem okTo_less {L : Int} {cuts : List Int} {k n : Nat} (h : okTo L cuts n = true) (hk : k ≤ n) : okTo L cuts k = true := by
  induction n with
  | zero =>
    obtain rfl : k = 0 := by omega
    exact h
  | succ n ih =>
    rcases Nat.lt_or_ge n k with h1 | h1
    · obtain rfl : k = n + 1 := by omega
      exact h
    · exact ih (okTo_step h).1 h1
theorem okTo_no {L : Int} {cuts : List Int} {k n : Nat} (h : okTo L cuts k = false) (hk : k ≤ n) : okTo L cuts n = false := by
  cases e : okTo L cuts n with
  | false => rfl
  | true => rw [okTo_less e hk] at h; cases h
theorem okCuts_len {L : Int} {cuts : List Int} (h : okCuts L cuts = true) (hL : L ≤ 1522) : cuts.length ≤ 24 := by
  have := okTo_fr h
  omega
theorem fr_eq {L : Int} {cuts : List Int} {k : Nat} (h : okTo L cuts k = true) : ((fr cuts k : Nat) : Int) = frI cuts k := by
  have := (okTo_fr h).1
  unfold fr
  omega
theorem wholeB_iff {s : ByteArray} : wholeB s = true ↔ (64 ≤ s.size ∧ s.size ≤ 1522) ∧ goodS s 0#32 = true := by
  unfold wholeB
  rw [Bool.and_eq_true, inB_iff]
  constructor
  · rintro ⟨h1, h2⟩; exact ⟨by omega, h2⟩
  · rintro ⟨h1, h2⟩; exact ⟨by omega, h2⟩
theorem okCuts_nil (L : Int) : okCuts L [] = true := rfl
end Go.Proofs.Ytgejpbgpgklimaa
