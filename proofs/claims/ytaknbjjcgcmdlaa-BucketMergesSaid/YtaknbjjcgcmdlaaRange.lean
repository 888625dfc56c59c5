/- What inRange, bounded and magnitude of the package num return. -/
import Derived.Test.YtaknbjjcgcmdlaaBase
import Derived.Test.YtaknbjjcgcmdlaaMath
import Derived.WalkKit
import Derived.ProofKit
import Derived.Handy
import Derived.WalkSpells
import Derived.Lib.Hide
namespace Go.Proofs.Ytaknbjjcgcmdlaa
open Go Go.RowKit

/-- Grown, and the tape is as it was. -/
def GrownT (w w' : World) : Prop := Grown w w' ∧ w'.tape = w.tape
theorem grownTTrans {a b c : World} (h : GrownT a b) (k : GrownT b c) : GrownT a c := ⟨grownTrans h.1 k.1, k.2.trans h.2⟩
theorem grownTRefl (w : World) : GrownT w w := ⟨Grown.refl w, rfl⟩

theorem allIn_take (zs : List Int) (k : Nat) (hk : k < zs.length) : allIn (zs.take (k + 1)) = (allIn (zs.take k) && inB (zs.getD k 0)) := by
  unfold allIn
  rw [List.take_succ_eq_append_getElem hk, List.all_append]
  simp [List.getD, List.getElem?_eq_getElem hk]
theorem allIn_false (zs : List Int) (k : Nat) (hk : k < zs.length) (h : inB (zs.getD k 0) = false) : allIn zs = false := by
  unfold allIn
  rw [List.all_eq_false]
  exact ⟨zs.getD k 0, by simp [List.getD, List.getElem?_eq_getElem hk], by rw [h]; simp⟩

theorem inRange_nil (w : World) : Calls Try.prog 24 #[.slice none 0 0] w fun e w' => e = .returned (.bool true) ∧ w' = w := by
  go_enter Try.func24, Try.ntmps24
  go_wp2
  go_loop [7] (fun i => i = .int .i64 0) (fun _ => 0)
  case atStart => rfl
  case round =>
    subst hrel
    go_wp2
    go_ret
    exact ⟨rfl, rfl⟩

theorem inRange_any (b off n cap : Nat) (zs : List Int) (w : World) (hl : zs.length = n) (hm : n ≤ 9223372036854775807)
    (hc : ∀ j, j < n → w.cell? ⟨b, off + j, none⟩ = some (.int .i64 (zs.getD j 0))) :
    Calls Try.prog 24 #[.slice (some ⟨b, off, none⟩) n cap] w fun e w' => e = .returned (.bool (allIn zs)) ∧ w' = w := by
  go_enter Try.func24, Try.ntmps24
  go_wp2
  go_loop [7] (fun i => ∃ k : Nat, k ≤ n ∧ i = .int .i64 k ∧ allIn (zs.take k) = true) (fun i => n - (intOf i).toNat)
  case atStart => exact ⟨0, Nat.zero_le _, rfl, rfl⟩
  case round =>
    obtain ⟨k, hk, rfl, hall⟩ := hrel
    have HA := Lib.hid hall
    clear hall
    by_cases hlt : k < n
    · have hcell := hc k hlt
      have HC := Lib.hid hc
      clear hc
      have hkl : k < zs.length := by omega
      generalize hz : zs.getD k 0 = z at hcell
      have HZ := Lib.hid hz
      clear hz
      by_cases h1 : z < -1125899906842624
      · go_wp2
        go_ret
        exact ⟨by rw [allIn_false zs k hkl (by rw [HZ.out, inB_no]; omega)]; rfl, rfl⟩
      · by_cases h2 : 1125899906842624 < z
        · go_wp2
          go_ret
          exact ⟨by rw [allIn_false zs k hkl (by rw [HZ.out, inB_no]; omega)]; rfl, rfl⟩
        · go_wp2
          go_round
          case rel => exact ⟨k + 1, by omega, by go_num, by rw [allIn_take zs k hkl, HA.out, HZ.out]; simp; rw [inB_iff]; omega⟩
          case measure => simp [intOf]; omega
    · obtain rfl : k = n := by omega
      have HC := Lib.hid hc
      clear hc
      go_wp2
      go_ret
      exact ⟨by have := HA.out; rw [← hl, List.take_length] at this; rw [this]; rfl, rfl⟩

theorem cellsNew (w : World) (c : Array Value) (t : TypeId) (j : Nat) (hj : j < c.size) : (w.alloc (.cells c t)).cell? ⟨w.heap.size, 0 + j, none⟩ = some c[j] := by
  have e1 : (w.alloc (.cells c t)).heap[w.heap.size]? = some (.cells c t) := (MapKept.heap_alloc w _).1
  unfold World.cell?
  rw [e1]
  simp [hj]

/-- The list of a call of inRange, laid by the call itself. -/
theorem inRange_new (zs : List Int) (w : World) (t : TypeId) (hm : zs.length ≤ 9223372036854775807) (b : Bool) (hb : allIn zs = b) :
    Calls Try.prog 24 #[.slice (some ⟨w.heap.size, 0, none⟩) zs.length zs.length] (w.alloc (.cells (zs.map (Value.int .i64)).toArray t)) fun e w' => e = .returned (.bool b) ∧ w' = w.alloc (.cells (zs.map (Value.int .i64)).toArray t) := by
  subst hb
  refine inRange_any _ 0 zs.length zs.length zs _ rfl hm ?_
  intro j hj
  rw [cellsNew _ _ _ _ (by simpa using hj)]
  simp [List.getD, List.getElem?_eq_getElem hj]

theorem inRange1 (a : Int) (w : World) (b : Bool) (hb : inB a = b) : Calls Try.prog 24 #[.slice (some ⟨w.heap.size, 0, none⟩) 1 1] (w.alloc (.cells #[.int .i64 a] 3)) fun e w' => e = .returned (.bool b) ∧ w' = w.alloc (.cells #[.int .i64 a] 3) :=
  inRange_new [a] w 3 (by simp) b (by simp [allIn, hb])
theorem inRange2 (a1 a2 : Int) (w : World) (b : Bool) (hb : (inB a1 && inB a2) = b) : Calls Try.prog 24 #[.slice (some ⟨w.heap.size, 0, none⟩) 2 2] (w.alloc (.cells #[.int .i64 a1, .int .i64 a2] 3)) fun e w' => e = .returned (.bool b) ∧ w' = w.alloc (.cells #[.int .i64 a1, .int .i64 a2] 3) :=
  inRange_new [a1, a2] w 3 (by simp) b (by simp [allIn, ← hb])
theorem inRange3 (a1 a2 a3 : Int) (w : World) (b : Bool) (hb : (inB a1 && (inB a2 && inB a3)) = b) : Calls Try.prog 24 #[.slice (some ⟨w.heap.size, 0, none⟩) 3 3] (w.alloc (.cells #[.int .i64 a1, .int .i64 a2, .int .i64 a3] 3)) fun e w' => e = .returned (.bool b) ∧ w' = w.alloc (.cells #[.int .i64 a1, .int .i64 a2, .int .i64 a3] 3) :=
  inRange_new [a1, a2, a3] w 3 (by simp) b (by simp [allIn, ← hb])

/-- 'e' is the pair r, and the world has only grown. -/
def Pair (r : Int × Bool) (w : World) (e : Ending) (w' : World) : Prop := e = .returned (.tuple #[.int .i64 r.1, .bool r.2]) ∧ GrownT w w'
/-- 'e' is the integer n, and the world has only grown. -/
def Num (n : Int) (w : World) (e : Ending) (w' : World) : Prop := e = .returned (.int .i64 n) ∧ GrownT w w'

theorem bounded_any (n : Int) (w : World) : Calls Try.prog 28 #[.int .i64 n] w (Pair (resS n) w) := by
  cases hb : inB n with
  | true =>
    have e1 : resS n = (n, true) := by unfold resS; rw [if_pos hb]
    rw [e1]; have HB := Lib.hid hb; clear hb e1
    go_enter Try.func28, Try.ntmps28
    go_wp2_with (go_at_call 24; refine (inRange1 n w true HB.out).mono ?_; rintro e w' ⟨rfl, rfl⟩)
    go_ret2
    exact ⟨rfl, ⟨by go_grown, by simp⟩⟩
  | false =>
    have e1 : resS n = (0, false) := by unfold resS; rw [if_neg (by rw [hb]; simp)]
    rw [e1]; have HB := Lib.hid hb; clear hb e1
    go_enter Try.func28, Try.ntmps28
    go_wp2_with (go_at_call 24; refine (inRange1 n w false HB.out).mono ?_; rintro e w' ⟨rfl, rfl⟩)
    go_ret2
    exact ⟨rfl, ⟨by go_grown, by simp⟩⟩

/-- The absolute value of an int that is not the least. -/
theorem magnitude_any (n : Int) (w : World) (h1 : -1125899906842624 ≤ n) (h2 : n ≤ 1125899906842624) :
    Calls Try.prog 26 #[.int .i64 n] w fun e w' => e = .returned (.int .u64 (n.natAbs : Int)) ∧ w' = w := by
  by_cases h : n < 0
  · go_enter Try.func26, Try.ntmps26
    go_wp2
    go_ret
    refine ⟨?_, rfl⟩
    congr 2
    go_arith
  · go_enter Try.func26, Try.ntmps26
    go_wp2
    go_ret
    refine ⟨?_, rfl⟩
    congr 2
    go_arith

end Go.Proofs.Ytaknbjjcgcmdlaa
