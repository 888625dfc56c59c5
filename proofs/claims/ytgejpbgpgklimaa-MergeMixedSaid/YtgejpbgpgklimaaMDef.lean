/- Pieces and states of the reassembly as data, and what Join makes of them. Nothing is said of the program here. -/
import Derived.Test.YtgejpbgpgklimaaBackMath
import Derived.Test.YtgejpbgpgklimaaCGood
namespace Go.Proofs.Ytgejpbgpgklimaa
open Go Go.RowKit

structure Pc where
  st : Bool
  num : Int
  cnt : Int
  data : ByteArray
structure Mg where
  on : Bool
  num : Int
  next : Int
  data : ByteArray

def inB (a n b : Int) : Bool := decide (a ≤ n ∧ n ≤ b)
def nilS : ByteArray := ⟨#[]⟩
def zeroM : Mg := ⟨false, 0, 0, ⟨#[]⟩⟩
/-- Is it the zero state? -/
def zB (on : Bool) (n x : Int) (d : ByteArray) : Bool := !on && decide (n = 0) && decide (x = 0) && decide (d.size = 0)
def Mg.okB (m : Mg) : Bool := zB m.on m.num m.next m.data || (m.on && inB 0 m.num 3 && inB 0 m.next 3 && inB 60 m.data.size 1518)
def Pc.okB (p : Pc) : Bool := inB 0 p.num 3 && inB 0 p.cnt 3 && (!p.st || decide (p.cnt = 0)) && inB 64 p.data.size 1522
def errM (m : Mg) : Int := if m.okB then 0 else 182
def errP (p : Pc) : Int := if p.okB then 0 else 181
/-- All octets of a frame up to now: the next state and the frame. -/
def recv (d : ByteArray) (n x : Int) : Mg × ByteArray :=
  if 1522 < d.size then (zeroM, ⟨#[]⟩) else if goodS d 0#32 then (zeroM, d) else if goodS d unf then (⟨true, n, x, d.extract 0 (d.size - 4)⟩, ⟨#[]⟩) else (zeroM, ⟨#[]⟩)
def fitsB (m : Mg) (p : Pc) : Bool := m.on && decide (m.num = p.num) && decide (m.next = p.cnt)
def stepM (m : Mg) (p : Pc) : Mg × ByteArray :=
  if p.st then recv p.data p.num 0 else if fitsB m p then recv (m.data ++ p.data) p.num ((m.next + 1) % 4) else (zeroM, ⟨#[]⟩)
def joinM (m : Mg) (p : Pc) : Mg := if m.okB && p.okB then (stepM m p).1 else zeroM
def joinS (m : Mg) (p : Pc) : ByteArray := if m.okB && p.okB then (stepM m p).2 else ⟨#[]⟩
def joinE (m : Mg) (p : Pc) : Int := if m.okB then errP p else 182

/-- The values that a piece and a state are. -/
def Pc.row (p : Pc) : Array Value := #[.bool p.st, .int .i64 p.num, .int .i64 p.cnt, .string p.data]
def Mg.row (m : Mg) : Array Value := #[.bool m.on, .int .i64 m.num, .int .i64 m.next, .string m.data]

theorem inB_iff {a n b : Int} : inB a n b = true ↔ a ≤ n ∧ n ≤ b := by simp [inB]
theorem size_nil {s : ByteArray} (h : s.size = 0) : s = ⟨#[]⟩ := by
  have h1 : s.data.toList.length = 0 := h
  apply bytes_ext
  rw [List.length_eq_zero_iff.1 h1]
theorem zB_iff {m : Mg} : zB m.on m.num m.next m.data = true ↔ m = zeroM := by
  unfold zB
  simp only [Bool.and_eq_true, Bool.not_eq_true', decide_eq_true_eq]
  constructor
  · rintro ⟨⟨⟨h1, h2⟩, h3⟩, h4⟩
    obtain ⟨o, n, x, d⟩ := m
    simp only at h1 h2 h3 h4
    rw [h1, h2, h3, size_nil h4]
    rfl
  · rintro rfl
    exact ⟨⟨⟨rfl, rfl⟩, rfl⟩, rfl⟩
theorem okM_iff {m : Mg} : m.okB = true ↔ m = zeroM ∨ (m.on = true ∧ (0 ≤ m.num ∧ m.num ≤ 3) ∧ (0 ≤ m.next ∧ m.next ≤ 3) ∧ (60 ≤ m.data.size ∧ m.data.size ≤ 1518)) := by
  unfold Mg.okB
  rw [Bool.or_eq_true, zB_iff]
  simp only [Bool.and_eq_true, inB_iff, and_assoc]
  constructor
  · rintro (h | ⟨h1, h2, h3, h4, h5, h6, h7⟩)
    · exact .inl h
    · exact .inr ⟨h1, h2, h3, h4, h5, by omega, by omega⟩
  · rintro (h | ⟨h1, h2, h3, h4, h5, h6, h7⟩)
    · exact .inl h
    · exact .inr ⟨h1, h2, h3, h4, h5, by omega, by omega⟩
theorem okP_iff {p : Pc} : p.okB = true ↔ (0 ≤ p.num ∧ p.num ≤ 3) ∧ (0 ≤ p.cnt ∧ p.cnt ≤ 3) ∧ (p.st = true → p.cnt = 0) ∧ (64 ≤ p.data.size ∧ p.data.size ≤ 1522) := by
  unfold Pc.okB
  simp only [Bool.and_eq_true, inB_iff, Bool.or_eq_true, Bool.not_eq_true', decide_eq_true_eq, and_assoc]
  cases p.st <;> simp <;> omega
theorem zero_ok : zeroM.okB = true := by decide
end Go.Proofs.Ytgejpbgpgklimaa
