/- What the iterator clearings of the package curve yields, at every valid row of buckets and rate: the numbers whose least is the clearing time. It is walked once, for every loop's body. -/
import Derived.RangeFuncNested
import Derived.RangeFuncBound
import Derived.RangeFuncCalls
import Derived.RangeFuncLeaves
import Derived.Shelf.Abstract
import Derived.Shelf.RegionOpen
import Derived.WalkKit
import Derived.OwnWalkIn
import Derived.TacticsInMore
import Derived.LoopNIn
import Derived.LoopIn
import Derived.Test.YtmamadgikjkjdaaCross
import Derived.Test.YtmamadgikjkjdaaFirst
namespace Go.Proofs.Ytmamadgikjkjdaa
open Go Go.RowKit Go.Shelf
attribute [local go_sem] Oper.semAt_some

def innerL (a s : Nat → Int) (R Bb Sb : Int) : Nat → List Int
  | 0 => []
  | j + 1 => innerL a s R Bb Sb j ++ (if R < s j ∧ a j < Bb then [crossD (a j) (s j) Bb Sb R] else [])
def outerL (a s : Nat → Int) (R : Int) (n : Nat) : Nat → List Int
  | 0 => []
  | k + 1 => outerL a s R n k ++ (if s k ≤ R then ceilD (a k * 1048576) R :: innerL a s R (a k) (s k) n else [])
theorem innerL_len (a s : Nat → Int) (R Bb Sb : Int) : ∀ j, (innerL a s R Bb Sb j).length ≤ j
  | 0 => by simp [innerL]
  | j + 1 => by
    have := innerL_len a s R Bb Sb j
    simp only [innerL, List.length_append]
    split <;> simp <;> omega
theorem outerL_len (a s : Nat → Int) (R : Int) (n : Nat) : ∀ k, (outerL a s R n k).length ≤ k * (n + 1)
  | 0 => by simp [outerL]
  | k + 1 => by
    have h1 := outerL_len a s R n k
    have h2 := innerL_len a s R (a k) (s k) n
    simp only [outerL, List.length_append]
    rw [Nat.succ_mul]
    split <;> simp <;> omega
theorem okEach_at {a s : Nat → Int} {n k : Nat} (h : okEach a s n = true) (hk : k < n) : okBk (a k) (s k) = true := by
  cases e : okBk (a k) (s k) with
  | true => rfl
  | false => rw [okEach_no hk e] at h; cases h

/-- Cells of all blocks but one read as they did. -/
def KeepC (r : Nat) (W W' : World) : Prop := ∀ b o v, b ≠ r → W.cell? ⟨b, o, none⟩ = some v → W'.cell? ⟨b, o, none⟩ = some v
theorem KeepC.refl (r : Nat) (W : World) : KeepC r W W := fun _ _ _ _ h => h
theorem KeepC.trans {r : Nat} {A B C : World} (h : KeepC r A B) (k : KeepC r B C) : KeepC r A C := fun b o v hb hc => k b o v hb (h b o v hb hc)
theorem KeepC.by {r : Nat} {A B C : World} (h : KeepC r A B) (k : GrownT B C) : KeepC r A C := fun b o v hb hc => (keepOf k.1).some (h b o v hb hc)
theorem keepC_b {r : Nat} {w : World} (W : World) (l : Nat) (o o' : Obj) (_ : w.heap.size ≤ l) (h : W.heap[l]? = some o) (ho : o.isCells = false) (_ : o.isWalk = false) : KeepC r W (W.putObj l o') := by
  intro b i v _ hc
  by_cases e : b = l
  · subst e
    simp only [World.cell?, h] at hc
    cases o <;> simp at hc
    cases ho
  · have : (W.putObj l o').heap[b]? = W.heap[b]? := World.putObj_heap_other e
    rw [World.cell?_of_block (w := W) (w' := W.putObj l o') (a := ⟨b, i, none⟩) this]; exact hc

set_option maxRecDepth 100000 in
theorem clearings_is (a0 : Option Addr) (len cap : Nat) (R : Int) (w : World) :
    Calls Try.prog 80 #[.slice a0 len cap, .int .i64 R] w fun e w' =>
      e = .returned (.func (.func 85) #[] #[.pointer (some ⟨w.heap.size, 0, none⟩), .pointer (some ⟨w.heap.size + 1, 0, none⟩)]) ∧ w' = (w.alloc (.cells #[.slice a0 len cap] 39)).alloc (.cells #[.int .i64 R] 3) := by
  have hmf : ∀ (fn : Fn) (first cap : Array Value) (w : World), (Instr.makeFunc fn first cap).run Try.prog w = .ok (.func fn first cap) w := fun _ _ _ _ => rfl
  go_enter Try.func80, Try.ntmps80
  go_wp2
  go_ret
  exact ⟨rfl, rfl⟩

set_option maxRecDepth 100000 in
set_option maxHeartbeats 8000000 in
theorem clearings1_in (n : Nat) (hn : 1 ≤ n) (l Bl Br r b off len cap : Nat) (R : Int) (a s : Nat → Int) (hR : 1 ≤ R ∧ R ≤ 2097152) (hlen : len ≤ 12) (hok : okEach a s len = true) (hbr : b ≠ r) (hBl : Bl ≠ r) (hBr : Br ≠ r) (J Jx : List Int → World → Prop)
    (hY : ∀ pre x W, J pre W → pre.length < 1000 → YieldAt Fence.wide (n - 1) Try.prog l #[.int .i64 x] W fun e W' =>
      (e = .returned (.bool true) ∧ J (pre ++ [x]) W' ∧ KeepC r W W') ∨ (e = .returned (.bool false) ∧ Jx (pre ++ [x]) W'))
    (W : World) (hr : r < W.heap.size) (hJ : AbidesFrom W.heap.size J) (hB0 : W.cell? ⟨Bl, 0, none⟩ = some (.slice (some ⟨b, off, none⟩) len cap)) (hB1 : W.cell? ⟨Br, 0, none⟩ = some (.int .i64 R))
    (ha : ∀ j, j < len → W.cell? ⟨b, off + j * 2, none⟩ = some (.int .i64 (a j))) (hs : ∀ j, j < len → W.cell? ⟨b, off + j * 2 + 1, none⟩ = some (.int .i64 (s j))) (h0 : J [] W) :
    CallsIn Fence.wide n Try.prog 85 #[.func (.yield l) #[] #[], .pointer (some ⟨Bl, 0, none⟩), .pointer (some ⟨Br, 0, none⟩)] W fun e W' => (∃ v, e = .returned v) ∧
      ((∃ ys, ys = outerL a s R len len ∧ J ys W') ∨ (∃ pre, True ∧ Jx pre W')) := by
  have HA := Lib.hid ha
  have HS := Lib.hid hs
  have HY := Lib.hid hY
  have HJ := Lib.hid hJ
  have HO := Lib.hid hok
  have HB0 := Lib.hid hB0
  have HB1 := Lib.hid hB1
  clear ha hs hY hJ hok
  refine callsIn_of_wp Try.func85 rfl trivial ?_ rfl
  simp only [Try.ntmps85, List.size_toArray, List.length_cons, List.length_nil, Nat.reduceAdd, Nat.reduceSub, Array.replicate_succ, Array.replicate_zero, List.push_toArray, List.append_toArray, List.nil_append, List.cons_append]
  gi_wp2
  clear hB0 hB1
  gi_loopw [10] (fun s10 wr => ∃ (k : Nat), k ≤ len ∧ s10 = .int .i64 k ∧ r < wr.heap.size ∧ Hid (J (outerL a s R len k) wr ∧ KeepC r W wr)) (fun i _ => len - (intOf i).toNat)
  case atStart => exact ⟨0, Nat.zero_le _, rfl, hr, Lib.hid ⟨h0, KeepC.refl _ _⟩⟩
  case round =>
    obtain ⟨k, hk, rfl, hrr, HR⟩ := hrel
    by_cases hlt : k < len
    · have bk := okBk_iff.1 (okEach_at HO.out hlt)
      have c0 := HR.out.2 _ _ _ hbr (HA.out k hlt)
      have c1 := HR.out.2 _ _ _ hbr (HS.out k hlt)
      have d1 := HR.out.2 _ _ _ hBr HB1.out
      have eL : outerL a s R len (k + 1) = outerL a s R len k ++ (if s k ≤ R then ceilD (a k * 1048576) R :: innerL a s R (a k) (s k) len else []) := rfl
      obtain ⟨x, hx⟩ : ∃ x, a k = x := ⟨_, rfl⟩
      obtain ⟨y, hy⟩ : ∃ y, s k = y := ⟨_, rfl⟩
      rw [hx, hy] at bk eL
      rw [hx] at c0
      rw [hy] at c1
      clear hx hy
      have hbk := cellBlock c0
      have hbr' := cellBlock d1
      by_cases hsl : y ≤ R
      · rw [if_pos hsl] at eL
        have HL := Lib.hid eL
        have HSl : Hid (decide (y ≤ R) = true) := Lib.hid (by simp [hsl])
        obtain ⟨c, hc⟩ : ∃ c, ceilD (x * 1048576) R = c := ⟨_, rfl⟩
        have HC := Lib.hid hc
        have hcq : c ≤ 1125899906842624 := by have := slowD_le (B := x) hR.1 bk.2.1; omega
        clear eL hc
        gi_wp2_with (first | (refine ⟨trivial, ?_⟩; gi_at_call 79; ((with_reducible refine (callsIn_wide.2 (slow_t x y R true _ HSl)).mono ?_); rintro e w1 ⟨rfl, g1⟩; have e0 : w1.cell? ⟨wr.heap.size, 0, none⟩ = some (.int .i64 x) := (keepOf g1.1).some (by simp [go_sem]); have e1 : w1.cell? ⟨wr.heap.size, 1, none⟩ = some (.int .i64 y) := (keepOf g1.1).some (by simp [go_sem]); have d2 := (keepOf g1.1).some (cell_alloc_old (.cells #[.int .i64 x, .int .i64 y] 30) d1))))
        refine ⟨trivial, ?_⟩
        gi_at_call 81
        refine (callsIn_wide.2 (ceilMulDiv_t x 1048576 R c _ (by omega) (by omega) (by omega) hcq HC)).mono ?_
        rintro e w2 ⟨rfl, g2⟩
        have g := grownTTrans (grownTTrans (allocT wr #[.int .i64 x, .int .i64 y] 30) g1) g2
        have hJ2 := HJ.out _ wr _ none HR.out.1 (grownByT g) (by simp)
        have hl1 := outerL_len a s R len k
        have hl2 : k * (len + 1) ≤ 12 * 13 := Nat.mul_le_mul (by omega) (by omega)
        have e0 := (keepOf g2.1).some e0
        have e1 := (keepOf g2.1).some e1
        have d2 := (keepOf g2.1).some d2
        have hX : wr.heap.size ≠ r := by omega
        obtain ⟨fn, tmps, assign, body, hy, hRR⟩ := HY.out _ c _ hJ2 (by omega)
        gi_wp2
        refine hRR.mono ?_
        rintro e W3 (⟨rfl, hJ3, hk3⟩ | ⟨rfl, hJx3⟩)
        · have hk30 := HR.out.2.by g |>.trans hk3
          have f0 := hk3 _ _ _ hX e0
          have f1 := hk3 _ _ _ hX e1
          have d3 := hk3 _ _ _ hBr d2
          have dl := hk30 _ _ _ hBl HB0.out
          gi_wp2
          have hXr : r < wr.heap.size := hrr
          obtain ⟨X, hXe⟩ : ∃ X, wr.heap.size = X := ⟨_, rfl⟩
          rw [hXe] at f0 f1 hXr ⊢
          have hWW : r < W3.heap.size := Nat.lt_trans hXr (cellBlock f0)
          gi_loopw [27] (fun s27 wi => ∃ (j : Nat), j ≤ len ∧ s27 = .int .i64 j ∧ r < wi.heap.size ∧ wi.cell? ⟨X, 0, none⟩ = some (.int .i64 x) ∧ wi.cell? ⟨X, 1, none⟩ = some (.int .i64 y) ∧ Hid (J (outerL a s R len k ++ c :: innerL a s R x y j) wi ∧ KeepC r W wi)) (fun i _ => len - (intOf i).toNat)
          case atStart => exact ⟨0, Nat.zero_le _, rfl, hWW, f0, f1, Lib.hid ⟨hJ3, hk30⟩⟩
          case round =>
            clear hXe f0 f1 d3 dl hk30 hJ3 hk3 hy hRR e0 e1 d2 hWW c0 c1 d1 hJ2 hbk hbr' hl1 g g1 g2
            obtain ⟨j, hj, rfl, hri, f0, f1, HI⟩ := hrel
            by_cases hlj : j < len
            · have bj := okBk_iff.1 (okEach_at HO.out hlj)
              have c0 := HI.out.2 _ _ _ hbr (HA.out j hlj)
              have c1 := HI.out.2 _ _ _ hbr (HS.out j hlj)
              have d3 := HI.out.2 _ _ _ hBr HB1.out
              have eI : innerL a s R x y (j + 1) = innerL a s R x y j ++ (if R < s j ∧ a j < x then [crossD (a j) (s j) x y R] else []) := rfl
              obtain ⟨p, hp⟩ : ∃ p, a j = p := ⟨_, rfl⟩
              obtain ⟨q, hq⟩ : ∃ q, s j = q := ⟨_, rfl⟩
              rw [hp, hq] at bj eI
              rw [hp] at c0
              rw [hq] at c1
              clear hp hq
              have hbk := cellBlock c0
              have hbr' := cellBlock d3
              have hbx := cellBlock f0
              have f0' := f0
              have f1' := f1
              by_cases hq : q ≤ R
              · have HQ : Hid (decide (q ≤ R) = true) := Lib.hid (by simp [hq])
                rw [if_neg (by omega), List.append_nil] at eI
                have HL2 := Lib.hid eI
                clear eI
                gi_wp2_with (refine ⟨trivial, ?_⟩; gi_at_call 79; ((with_reducible refine (callsIn_wide.2 (slow_t p q R true _ HQ)).mono ?_); rintro e w4 ⟨rfl, g4⟩; have m0 : w4.cell? ⟨wr.heap.size, 0, none⟩ = some (.int .i64 p) := (keepOf g4.1).some (by simp [go_sem]); have m1 : w4.cell? ⟨wr.heap.size, 1, none⟩ = some (.int .i64 q) := (keepOf g4.1).some (by simp [go_sem]); have f0 := (keepOf g4.1).some (cell_alloc_old (.cells #[.int .i64 p, .int .i64 q] 30) f0); have f1 := (keepOf g4.1).some (cell_alloc_old (.cells #[.int .i64 p, .int .i64 q] 30) f1); have d3 := (keepOf g4.1).some (cell_alloc_old (.cells #[.int .i64 p, .int .i64 q] 30) d3)))
                refine ⟨trivial, ?_⟩
                gi_wp2
                refine ⟨fun _ h => (by cases h), ?_⟩
                gi_wp2
                have g := grownTTrans (allocT wr #[.int .i64 p, .int .i64 q] 30) g4
                go_roundw
                case rel => exact ⟨j + 1, by omega, rfl, Nat.lt_of_lt_of_le hri (keepOf g.1).size, (keepOf g.1).some f0', (keepOf g.1).some f1', Lib.hid ⟨by rw [HL2.out]; exact HJ.out _ wr _ none HI.out.1 (grownByT g) (by simp), HI.out.2.by g⟩⟩
                case measure => simp [intOf]; omega
              · have HQ : Hid (decide (q ≤ R) = false) := Lib.hid (by simp; omega)
                have hq' : R < q := by omega
                by_cases hpx : p < x
                · rw [if_pos ⟨hq', hpx⟩] at eI
                  obtain ⟨u, hu⟩ : ∃ u, crossD p q x y R = u := ⟨_, rfl⟩
                  have HU := Lib.hid hu
                  rw [hu] at eI
                  have HL2 := Lib.hid eI
                  clear eI hu
                  gi_wp2_with (refine ⟨trivial, ?_⟩; gi_at_call 79; ((with_reducible refine (callsIn_wide.2 (slow_t p q R false _ HQ)).mono ?_); rintro e w4 ⟨rfl, g4⟩; have m0 : w4.cell? ⟨wr.heap.size, 0, none⟩ = some (.int .i64 p) := (keepOf g4.1).some (by simp [go_sem]); have m1 : w4.cell? ⟨wr.heap.size, 1, none⟩ = some (.int .i64 q) := (keepOf g4.1).some (by simp [go_sem]); have f0 := (keepOf g4.1).some (cell_alloc_old (.cells #[.int .i64 p, .int .i64 q] 30) f0); have f1 := (keepOf g4.1).some (cell_alloc_old (.cells #[.int .i64 p, .int .i64 q] 30) f1); have d3 := (keepOf g4.1).some (cell_alloc_old (.cells #[.int .i64 p, .int .i64 q] 30) d3)))
                  refine ⟨trivial, ?_⟩
                  gi_at_call 86
                  refine (callsIn_wide.2 (crossing_t p q x y R u _ (by omega) (by omega) (by omega) (by omega) hR hq' hsl (by omega) HU)).mono ?_
                  rintro e w5 ⟨rfl, g5⟩
                  have g := grownTTrans (grownTTrans (allocT wr #[.int .i64 p, .int .i64 q] 30) g4) g5
                  have hJ4 := HJ.out _ wr _ none HI.out.1 (grownByT g) (by simp)
                  have hl1 := outerL_len a s R len k
                  have hl2 := innerL_len a s R x y j
                  have hl3 : k * (len + 1) ≤ 12 * 13 := Nat.mul_le_mul (by omega) (by omega)
                  obtain ⟨fn, tmps, assign, body, hy, hRR⟩ := HY.out _ u _ hJ4 (by simp only [List.length_append, List.length_cons]; omega)
                  gi_wp2
                  refine hRR.mono ?_
                  have eP : (outerL a s R len k ++ c :: innerL a s R x y j) ++ [u] = outerL a s R len k ++ c :: innerL a s R x y (j + 1) := by rw [HL2.out]; simp
                  rintro e W5 (⟨rfl, hJ5, hk5⟩ | ⟨rfl, hJx5⟩)
                  · rw [eP] at hJ5
                    have hkW : KeepC r W W5 := (HI.out.2.by g).trans hk5
                    have hX : X ≠ r := by omega
                    have n0 := hk5 _ _ _ hX ((keepOf g.1).some f0')
                    have n1 := hk5 _ _ _ hX ((keepOf g.1).some f1')
                    gi_wp2
                    go_roundw
                    case rel => exact ⟨j + 1, by omega, rfl, Nat.lt_trans hXr (cellBlock n0), n0, n1, Lib.hid ⟨hJ5, hkW⟩⟩
                    case measure => simp [intOf]; omega
                  · gi_wp2
                    refine bodyPost_ret (results_none rfl _ _ _) rfl ?_
                    exact ⟨⟨_, rfl⟩, .inr ⟨_, trivial, hJx5⟩⟩
                · have hpx' : x ≤ p := by omega
                  rw [if_neg (by omega), List.append_nil] at eI
                  have HL2 := Lib.hid eI
                  clear eI
                  gi_wp2_with (refine ⟨trivial, ?_⟩; gi_at_call 79; ((with_reducible refine (callsIn_wide.2 (slow_t p q R false _ HQ)).mono ?_); rintro e w4 ⟨rfl, g4⟩; have m0 : w4.cell? ⟨wr.heap.size, 0, none⟩ = some (.int .i64 p) := (keepOf g4.1).some (by simp [go_sem]); have m1 : w4.cell? ⟨wr.heap.size, 1, none⟩ = some (.int .i64 q) := (keepOf g4.1).some (by simp [go_sem]); have f0 := (keepOf g4.1).some (cell_alloc_old (.cells #[.int .i64 p, .int .i64 q] 30) f0); have f1 := (keepOf g4.1).some (cell_alloc_old (.cells #[.int .i64 p, .int .i64 q] 30) f1); have d3 := (keepOf g4.1).some (cell_alloc_old (.cells #[.int .i64 p, .int .i64 q] 30) d3)))
                  refine ⟨trivial, ?_⟩
                  gi_wp2
                  refine ⟨fun _ h => (by cases h), ?_⟩
                  gi_wp2
                  have g := grownTTrans (allocT wr #[.int .i64 p, .int .i64 q] 30) g4
                  go_roundw
                  case rel => exact ⟨j + 1, by omega, rfl, Nat.lt_of_lt_of_le hri (keepOf g.1).size, (keepOf g.1).some f0', (keepOf g.1).some f1', Lib.hid ⟨by rw [HL2.out]; exact HJ.out _ wr _ none HI.out.1 (grownByT g) (by simp), HI.out.2.by g⟩⟩
                  case measure => simp [intOf]; omega
            · obtain rfl : j = len := by omega
              gi_wp2
              go_roundw
              case rel => exact ⟨k + 1, by omega, rfl, hri, Lib.hid ⟨by rw [HL.out, HC.out]; exact HI.out.1, HI.out.2⟩⟩
              case measure => simp [intOf]; omega
        · gi_wp2
          refine bodyPost_ret (results_none rfl _ _ _) rfl ?_
          exact ⟨⟨_, rfl⟩, .inr ⟨_, trivial, hJx3⟩⟩
      · rw [if_neg hsl, List.append_nil] at eL
        have HL := Lib.hid eL
        have HSl : Hid (decide (y ≤ R) = false) := Lib.hid (by simp; omega)
        clear eL
        gi_wp2_with (refine ⟨trivial, ?_⟩; gi_at_call 79; ((with_reducible refine (callsIn_wide.2 (slow_t x y R false _ HSl)).mono ?_); rintro e w1 ⟨rfl, g1⟩))
        have g := grownTTrans (allocT wr #[.int .i64 x, .int .i64 y] 30) g1
        go_roundw
        case rel => exact ⟨k + 1, by omega, rfl, Nat.lt_of_lt_of_le hrr (keepOf g.1).size, Lib.hid ⟨by rw [HL.out]; exact HJ.out _ wr _ none HR.out.1 (grownByT g) (by simp), HR.out.2.by g⟩⟩
        case measure => simp [intOf]; omega
    · obtain rfl : k = len := by omega
      gi_wp2
      go_end0
      exact ⟨⟨_, rfl⟩, .inl ⟨_, rfl, HR.out.1⟩⟩

end Go.Proofs.Ytmamadgikjkjdaa
