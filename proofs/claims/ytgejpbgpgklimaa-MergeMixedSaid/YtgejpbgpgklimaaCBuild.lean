/- A register built from its content and a table. -/
import Derived.Test.YtgejpbgpgklimaaCTake
namespace Go.Proofs.Ytgejpbgpgklimaa
open Go Go.RowKit

theorem fold_at (off i : Nat) : ∀ (l : List Value) (k : Nat) (cs : Array Value), ((l.zipIdx k).foldl (fun cs (x : Value × Nat) => cs.setIfInBounds (off + x.2) x.1) cs)[i]? = if off + k ≤ i ∧ i < off + k + l.length ∧ i < cs.size then l[i - (off + k)]? else cs[i]?
  | [], k, cs => by
    rw [if_neg (by simp; omega)]; rfl
  | x :: l, k, cs => by
    rw [List.zipIdx_cons, List.foldl_cons, fold_at off i l (k + 1)]
    simp only [Array.size_setIfInBounds, List.length_cons]
    by_cases h1 : off + (k + 1) ≤ i ∧ i < off + (k + 1) + l.length ∧ i < cs.size
    · rw [if_pos h1, if_pos (by omega), show i - (off + k) = (i - (off + (k + 1))) + 1 by omega, List.getElem?_cons_succ]
    · rw [if_neg h1]
      by_cases h2 : i = off + k
      · subst h2
        by_cases h3 : off + k < cs.size
        · rw [if_pos (by omega)]
          simp [h3]
        · rw [if_neg (by omega)]
          simp [h3]
      · rw [if_neg (by omega), Array.getElem?_setIfInBounds_ne (by omega)]
theorem built_register (c : Int) (A : Array Value) (hA : A.size = 256) : Try.prog.built 116 [(0, .int .u32 c), (1, .agg A)] = some (#[.int .u32 c] ++ A) := by
  have h : Try.prog.built 116 [(0, .int .u32 c), (1, .agg A)] = Instr.fill (fun i => (#[(0, 1), (1, 256)] : Array (Nat × Nat))[i]?) (Array.replicate 257 (.int .u32 0)) [(0, .int .u32 c), (1, .agg A)] := by kernel_rfl
  rw [h]
  generalize hz : Array.replicate 257 (Value.int .u32 0) = Z
  have hZ : Z.size = 257 := by rw [← hz]; simp
  have e : (A.zipIdx.foldl (fun cs (x : Value × Nat) => cs.setIfInBounds (1 + x.2) x.1) (Z.setIfInBounds 0 (.int .u32 c))) = #[.int .u32 c] ++ A := by
    have e1 : A.zipIdx.foldl (fun cs (x : Value × Nat) => cs.setIfInBounds (1 + x.2) x.1) (Z.setIfInBounds 0 (.int .u32 c)) = (A.toList.zipIdx 0).foldl (fun cs (x : Value × Nat) => cs.setIfInBounds (1 + x.2) x.1) (Z.setIfInBounds 0 (.int .u32 c)) := by
      rw [← Array.foldl_toList, Array.toList_zipIdx]
    rw [e1]
    apply Array.ext_getElem?
    intro i
    rw [fold_at]
    simp only [Array.size_setIfInBounds, hZ, Array.length_toList, hA]
    cases i with
    | zero => rw [if_neg (by omega), Array.getElem?_append_left (by simp)]; simp [hZ]
    | succ i =>
      rw [Array.getElem?_append_right (by simp)]
      by_cases hi : i < 256
      · rw [if_pos (by omega)]
        simp
      · rw [if_neg (by omega), Array.getElem?_eq_none (by simp; omega), Array.getElem?_eq_none (by simp; omega)]
  have e2 : A.zipIdx.size = 256 := by simp [hA]
  rw [← e]
  simp [Instr.fill, Value.cells, hA, hZ]
end Go.Proofs.Ytgejpbgpgklimaa
