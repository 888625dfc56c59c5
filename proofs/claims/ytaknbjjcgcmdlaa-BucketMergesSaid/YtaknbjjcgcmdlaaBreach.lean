/- What firstBreach of the package bucket returns, at every valid bucket and trace: the index of the first arrival behind which the token level is negative; -1 if there is none. The iterator is walked once, for every loop's body. -/
import Derived.RangeFuncNested
import Derived.RangeFuncBound
import Derived.RangeFuncCalls
import Derived.RangeFuncLeaves
import Derived.Shelf.Abstract
import Derived.Shelf.RegionOpen
import Derived.WalkKit
import Derived.OwnWalkIn
import Derived.TacticsInMore
import Derived.LoopNIn
import Derived.LoopIn
import Derived.Test.YtaknbjjcgcmdlaaTrace
namespace Go.Proofs.Ytaknbjjcgcmdlaa
open Go Go.RowKit Go.Shelf
attribute [local go_sem] Oper.semAt_some

def upto {α : Type} (f : Nat → α) (k : Nat) : List α := (List.range k).map f
theorem upto_succ {α : Type} (f : Nat → α) (k : Nat) : upto f (k + 1) = upto f k ++ [f k] := by simp [upto, List.range_succ]
theorem upto_length {α : Type} (f : Nat → α) (k : Nat) : (upto f k).length = k := by simp [upto]
theorem cell_one {w : World} (v : Value) (t : TypeId) : (w.alloc (.cells #[v] t)).cell? ⟨w.heap.size, 0, none⟩ = some v := by simp [go_sem]
theorem cell_alloc_old {w : World} {b o : Nat} {v : Value} (x : Obj) (h : w.cell? ⟨b, o, none⟩ = some v) : (w.alloc x).cell? ⟨b, o, none⟩ = some v :=
  (World.cell?_of_block (w := w) (a := ⟨b, o, none⟩) (Below.heap_alloc w x b (cellBlock h))).trans h

/-- What the iterator yields at index j. -/
def levAt (B R : Int) (a s : Nat → Int) (j : Nat) : Nat × Int := (j, lev B R a s (j + 1))

set_option maxRecDepth 100000 in
set_option maxHeartbeats 1000000 in
theorem levels_in (F : Fence) (n : Nat) (hf : F.fn 29) (hro : F.round = none) (B R : Int) (a0 : Option Addr) (len cap : Nat) (w : World) :
    CallsIn F n Try.prog 29 #[.agg #[.int .i64 B, .int .i64 R], .slice a0 len cap] w fun e w' =>
      e = .returned (.func (.func 31) #[] #[.pointer (some ⟨w.heap.size, 0, none⟩), .pointer (some ⟨w.heap.size + 1, 0, none⟩)]) ∧ w' = (w.alloc (.cells #[.int .i64 B, .int .i64 R] 30)).alloc (.cells #[.slice a0 len cap] 32) := by
  refine callsIn_of_wp Try.func29 rfl hf ?_ hro
  simp only [Try.ntmps29, List.size_toArray, List.length_cons, List.length_nil, Nat.reduceAdd, Nat.reduceSub, Array.replicate_succ, Array.replicate_zero, List.push_toArray, List.append_toArray, List.nil_append, List.cons_append]
  gi_wp2
  go_ret
  exact ⟨rfl, rfl⟩

set_option maxRecDepth 100000 in
set_option maxHeartbeats 4000000 in
theorem levels1_in (F : Fence) (n : Nat) (hf : F.fn 31) (hro : F.round = none) (hn : 1 ≤ n) (l Bb Bs n₀ b off len cap : Nat) (B R : Int) (a s : Nat → Int) (hBk : okBk B R = true) (hlen : len ≤ 200) (hok : okSteps a s len = true) (hb : 0 < len → b < n₀) (hbb : Bb < n₀) (J Jx : List (Nat × Int) → World → Prop)
    (hY : ∀ pre x W, J pre W → pre.length < len → YieldAt F (n - 1) Try.prog l #[.int .i64 (x.1 : Int), .int .i64 x.2] W fun e W' =>
      (e = .returned (.bool true) ∧ J (pre ++ [x]) W' ∧ Below n₀ W W') ∨ (e = .returned (.bool false) ∧ Jx (pre ++ [x]) W'))
    (W : World) (hn₀ : n₀ ≤ W.heap.size) (hJ : AbidesFrom W.heap.size J) (hB0 : W.cell? ⟨Bb, 0, none⟩ = some (.int .i64 B)) (hB1 : W.cell? ⟨Bb, 1, none⟩ = some (.int .i64 R)) (hBs : W.cell? ⟨Bs, 0, none⟩ = some (.slice (some ⟨b, off, none⟩) len cap))
    (ha : ∀ j, j < len → W.cell? ⟨b, off + j * 2, none⟩ = some (.int .i64 (a j))) (hs : ∀ j, j < len → W.cell? ⟨b, off + j * 2 + 1, none⟩ = some (.int .i64 (s j))) (h0 : J [] W) :
    CallsIn F n Try.prog 31 #[.func (.yield l) #[] #[], .pointer (some ⟨Bb, 0, none⟩), .pointer (some ⟨Bs, 0, none⟩)] W fun e W' => (∃ v, e = .returned v) ∧
      ((∃ ys, ys = upto (levAt B R a s) len ∧ J ys W') ∨ (∃ pre, (∃ k, k ≤ len ∧ pre = upto (levAt B R a s) k) ∧ Jx pre W')) := by
  have HA := Lib.hid ha
  have HS := Lib.hid hs
  have HY := Lib.hid hY
  have HJ := Lib.hid hJ
  have HK := Lib.hid hok
  have HB := Lib.hid hBk
  have bk := okBk_iff.1 hBk
  obtain ⟨FL, hFL⟩ : ∃ FL, B * 1048576 = FL := ⟨_, rfl⟩
  have hF1 : 1048576 ≤ FL ∧ FL ≤ 1099511627776 := by omega
  clear ha hs hY hJ hok hBk
  refine callsIn_of_wp Try.func31 rfl hf ?_ hro
  simp only [Try.ntmps31, List.size_toArray, List.length_cons, List.length_nil, Nat.reduceAdd, Nat.reduceSub, Array.replicate_succ, Array.replicate_zero, List.push_toArray, List.append_toArray, List.nil_append, List.cons_append]
  gi_wp2
  gi_loopw [5, 6, 15] (fun s5 s6 s15 wr => ∃ (k : Nat) (L p : Int), k ≤ len ∧ s15 = .int .i64 k ∧ s5 = .int .i64 L ∧ s6 = .int .i64 p ∧ Hid (lev B R a s k = L ∧ prevAt a k = p ∧ J (upto (levAt B R a s) k) wr ∧ Below n₀ W wr))
    (fun _ _ i _ => len - (intOf i).toNat)
  case atStart => exact ⟨0, FL, 0, Nat.zero_le _, rfl, rfl, rfl, Lib.hid ⟨hFL, rfl, h0, Below.refl _ _⟩⟩
  case round =>
    obtain ⟨k, L, p, hk, rfl, rfl, rfl, HR⟩ := hrel
    by_cases hlt : k < len
    · have cb0 : wr.cell? ⟨Bb, 0, none⟩ = some (.int .i64 B) := (HR.out.2.2.2.cell (p := ⟨Bb, 0, none⟩) hbb).trans hB0
      have cb1 : wr.cell? ⟨Bb, 1, none⟩ = some (.int .i64 R) := (HR.out.2.2.2.cell (p := ⟨Bb, 1, none⟩) hbb).trans hB1
      have c0 : wr.cell? ⟨b, off + k * 2, none⟩ = some (.int .i64 (a k)) := (HR.out.2.2.2.cell (p := ⟨b, off + k * 2, none⟩) (hb (by omega))).trans (HA.out k hlt)
      have c1 : wr.cell? ⟨b, off + k * 2 + 1, none⟩ = some (.int .i64 (s k)) := (HR.out.2.2.2.cell (p := ⟨b, off + k * 2 + 1, none⟩) (hb (by omega))).trans (HS.out k hlt)
      have bd := okSteps_bd HK.out k hlt
      have bl := lev_bd HB.out HK.out k hk
      have eL : lev B R a s (k + 1) = min (B * 1048576) (lev B R a s k + R * (a k - prevAt a k)) - s k * 1048576 := rfl
      obtain ⟨x, hx⟩ : ∃ x, a k = x := ⟨_, rfl⟩
      obtain ⟨y, hy⟩ : ∃ y, s k = y := ⟨_, rfl⟩
      rw [HR.out.1, HR.out.2.1, hx, hy, hFL] at eL
      rw [HR.out.2.1, hx, hy] at bd
      rw [HR.out.1, hFL] at bl
      rw [hx] at c0
      rw [hy] at c1
      have HX := Lib.hid hx
      clear hx hy
      obtain ⟨D, hD⟩ : ∃ D, x - p = D := ⟨_, rfl⟩
      rw [hD] at eL
      have gd := gain_bd (d := D) bk.2.2 (by omega)
      obtain ⟨G, hG⟩ : ∃ G, R * D = G := ⟨_, rfl⟩
      rw [hG] at eL gd
      obtain ⟨T, hT⟩ : ∃ T, L + G = T := ⟨_, rfl⟩
      rw [hT] at eL
      by_cases hle : FL ≤ T
      · have eM : min FL T = FL := by omega
        rw [eM] at eL
        clear eM
        obtain ⟨Y, hY⟩ : ∃ Y, y * 1048576 = Y := ⟨_, rfl⟩
        rw [hY] at eL
        obtain ⟨L', hL'⟩ : ∃ L', FL - Y = L' := ⟨_, rfl⟩
        rw [hL'] at eL
        have HL := Lib.hid eL
        have b1 : -1099511627776 * 200 ≤ L ∧ L ≤ 1099511627776 := by omega
        have b2 : 0 ≤ D ∧ D ≤ 1099511627776 := by omega
        have b3 : -1099511627776 * 200 ≤ T ∧ T ≤ 3000000000000000000 := by omega
        have b5 : 0 ≤ Y ∧ Y ≤ 1099511627776 := by omega
        have b6 : -1099511627776 * 201 ≤ L' ∧ L' ≤ 1099511627776 := by omega
        have hJa : J (upto (levAt B R a s) k) (wr.alloc (.cells #[.int .i64 x, .int .i64 y] 35)) := HJ.out _ wr _ none HR.out.2.2.1 (World.grownBy_alloc _ _ _) (by simp)
        obtain ⟨fn, tmps, assign, body, hy, hR⟩ := HY.out _ (k, L') _ hJa (by rw [upto_length]; exact hlt)
        dsimp only at hy
        clear eL bl
        have hbk := cellBlock cb0
        gi_wp2
        refine hR.mono ?_
        have eu : upto (levAt B R a s) k ++ [(k, L')] = upto (levAt B R a s) (k + 1) := by rw [upto_succ]; unfold levAt; rw [HL.out]
        rintro e W3 (⟨rfl, hJ3, hk3⟩ | ⟨rfl, hJx3⟩)
        · gi_wp2
          go_roundw
          case rel => exact ⟨k + 1, L', x, by omega, rfl, rfl, rfl, Lib.hid ⟨HL.out, HX.out, by rw [← eu]; exact hJ3, (HR.out.2.2.2.alloc (by have := HR.out.2.2.2.size; omega) _).trans hk3⟩⟩
          case measure => simp [intOf]; omega
        · gi_wp2
          refine bodyPost_ret (results_none rfl _ _ _) rfl ?_
          exact ⟨⟨_, rfl⟩, .inr ⟨_, ⟨k + 1, by omega, eu⟩, hJx3⟩⟩
      · have hle' : T < FL := by omega
        have eM : min FL T = T := by omega
        rw [eM] at eL
        clear eM
        obtain ⟨Y, hY⟩ : ∃ Y, y * 1048576 = Y := ⟨_, rfl⟩
        rw [hY] at eL
        obtain ⟨L', hL'⟩ : ∃ L', T - Y = L' := ⟨_, rfl⟩
        rw [hL'] at eL
        have HL := Lib.hid eL
        have b1 : -1099511627776 * 200 ≤ L ∧ L ≤ 1099511627776 := by omega
        have b2 : 0 ≤ D ∧ D ≤ 1099511627776 := by omega
        have b3 : -1099511627776 * 200 ≤ T ∧ T ≤ 3000000000000000000 := by omega
        have b5 : 0 ≤ Y ∧ Y ≤ 1099511627776 := by omega
        have b6 : -1099511627776 * 201 ≤ L' ∧ L' ≤ 1099511627776 := by omega
        have hJa : J (upto (levAt B R a s) k) (wr.alloc (.cells #[.int .i64 x, .int .i64 y] 35)) := HJ.out _ wr _ none HR.out.2.2.1 (World.grownBy_alloc _ _ _) (by simp)
        obtain ⟨fn, tmps, assign, body, hy, hR⟩ := HY.out _ (k, L') _ hJa (by rw [upto_length]; exact hlt)
        dsimp only at hy
        clear eL bl
        have hbk := cellBlock cb0
        gi_wp2
        refine hR.mono ?_
        have eu : upto (levAt B R a s) k ++ [(k, L')] = upto (levAt B R a s) (k + 1) := by rw [upto_succ]; unfold levAt; rw [HL.out]
        rintro e W3 (⟨rfl, hJ3, hk3⟩ | ⟨rfl, hJx3⟩)
        · gi_wp2
          go_roundw
          case rel => exact ⟨k + 1, L', x, by omega, rfl, rfl, rfl, Lib.hid ⟨HL.out, HX.out, by rw [← eu]; exact hJ3, (HR.out.2.2.2.alloc (by have := HR.out.2.2.2.size; omega) _).trans hk3⟩⟩
          case measure => simp [intOf]; omega
        · gi_wp2
          refine bodyPost_ret (results_none rfl _ _ _) rfl ?_
          exact ⟨⟨_, rfl⟩, .inr ⟨_, ⟨k + 1, by omega, eu⟩, hJx3⟩⟩
    · obtain rfl : k = len := by omega
      gi_wp2
      go_end0
      exact ⟨⟨_, rfl⟩, .inl ⟨_, rfl, HR.out.2.2.1⟩⟩

set_option maxRecDepth 100000 in
set_option maxHeartbeats 1000000 in
theorem levels1_nil_in (F : Fence) (n : Nat) (hf : F.fn 31) (hro : F.round = none) (l Bb Bs : Nat) (B R : Int) (hBk : okBk B R = true) (J : List (Nat × Int) → World → Prop) (W : World) (hB0 : W.cell? ⟨Bb, 0, none⟩ = some (.int .i64 B)) (hBs : W.cell? ⟨Bs, 0, none⟩ = some (.slice none 0 0)) (h0 : J [] W) :
    CallsIn F n Try.prog 31 #[.func (.yield l) #[] #[], .pointer (some ⟨Bb, 0, none⟩), .pointer (some ⟨Bs, 0, none⟩)] W fun e W' => (∃ v, e = .returned v) ∧ J [] W' := by
  have bk := okBk_iff.1 hBk
  clear hBk
  obtain ⟨FL, hFL⟩ : ∃ FL, B * 1048576 = FL := ⟨_, rfl⟩
  have hF1 : 1048576 ≤ FL ∧ FL ≤ 1099511627776 := by omega
  refine callsIn_of_wp Try.func31 rfl hf ?_ hro
  simp only [Try.ntmps31, List.size_toArray, List.length_cons, List.length_nil, Nat.reduceAdd, Nat.reduceSub, Array.replicate_succ, Array.replicate_zero, List.push_toArray, List.append_toArray, List.nil_append, List.cons_append]
  gi_wp2
  gi_loopw [5, 6, 15] (fun s5 s6 i wr => i = .int .i64 0 ∧ J [] wr) (fun _ _ _ _ => 0)
  case atStart => exact ⟨rfl, h0⟩
  case round =>
    obtain ⟨rfl, hJs⟩ := hrel
    gi_wp2
    go_end0
    exact ⟨⟨_, rfl⟩, hJs⟩

theorem levels_stops (F : Fence) (n : Nat) (hf : F.fn 31) (hro : F.round = none) (hn : 1 ≤ n) (Bb Bs n₀ : Nat) (B R : Int) (v : Value) (l : List (Int × Int)) (hBk : okBk B R = true) (hok : okT l = true) (w : World) (hn₀ : n₀ ≤ w.heap.size) (hbb : Bb < n₀) (hbs : Bs < n₀)
    (hB0 : w.cell? ⟨Bb, 0, none⟩ = some (.int .i64 B)) (hB1 : w.cell? ⟨Bb, 1, none⟩ = some (.int .i64 R)) (hBs : w.cell? ⟨Bs, 0, none⟩ = some v) (hI : v = .slice none 0 0 ∧ l = [] ∨ ∃ b off cap, v = .slice (some ⟨b, off, none⟩) l.length cap ∧ (0 < l.length → b < n₀) ∧ (∀ j, j < l.length → w.cell? ⟨b, off + j * 2, none⟩ = some (.int .i64 (atL l j))) ∧ (∀ j, j < l.length → w.cell? ⟨b, off + j * 2 + 1, none⟩ = some (.int .i64 (szL l j)))) :
    SeqStopsK F n Try.prog 31 #[.pointer (some ⟨Bb, 0, none⟩), .pointer (some ⟨Bs, 0, none⟩)] (fun x : Nat × Int => #[Value.int .i64 (x.1 : Int), Value.int .i64 x.2]) (Below n₀) (fun ys => ys = upto (levAt B R (atL l) (szL l)) l.length)
      (fun pre => ∃ k, k ≤ l.length ∧ pre = upto (levAt B R (atL l) (szL l)) k) l.length w := fun y J Jx W hW hJ _ hY h0 => by
  have hx := hW.mono hn₀
  have cell : ∀ p o, p < n₀ → W.cell? ⟨p, o, none⟩ = w.cell? ⟨p, o, none⟩ := fun p o hp => hx.cell (p := ⟨p, o, none⟩) hp
  rcases hI with ⟨rfl, rfl⟩ | ⟨b, off, cap, rfl, hb, h4, h5⟩
  · exact (levels1_nil_in F n hf hro y Bb Bs B R hBk J W ((cell _ _ hbb).trans hB0) ((cell _ _ hbs).trans hBs) h0).mono fun e W' ⟨he, hj⟩ => ⟨he, .inl ⟨_, rfl, hj⟩⟩
  · exact levels1_in F n hf hro hn y Bb Bs n₀ b off l.length cap B R (atL l) (szL l) hBk (okT_iff.1 hok).1 (okT_iff.1 hok).2 hb hbb J Jx hY W (Nat.le_trans hn₀ hW.size) hJ ((cell _ _ hbb).trans hB0) ((cell _ _ hbb).trans hB1) ((cell _ _ hbs).trans hBs)
      (fun j hj => (cell _ _ (hb (by omega))).trans (h4 j hj)) (fun j hj => (cell _ _ (hb (by omega))).trans (h5 j hj)) h0

end Go.Proofs.Ytaknbjjcgcmdlaa
