/- What a draft's Bucket and Trace return: a valid bucket, a valid trace. -/
import Derived.Test.YtaknbjjcgcmdlaaCalls
import Derived.Deep.AppendLies
import Derived.Laws.OwnMore
import Derived.OwnWalk
namespace Go.Proofs.Ytaknbjjcgcmdlaa
open Go Go.RowKit

/-! ### Rows of one's own: the cells of a list of arrivals -/
def cellsL (l : List (Int × Int)) : List Value := l.flatMap fun p => [.int .i64 p.1, .int .i64 p.2]
theorem cellsL_append (l m : List (Int × Int)) : cellsL (l ++ m) = cellsL l ++ cellsL m := by unfold cellsL; rw [List.flatMap_append]
theorem cellsL_len (l : List (Int × Int)) : (cellsL l).length = l.length * 2 := by
  induction l with
  | nil => rfl
  | cons p l ih =>
    show (_ :: _ :: cellsL l).length = _
    simp [ih]; omega
theorem cellsL_at : ∀ (l : List (Int × Int)) (j : Nat), j < l.length → (cellsL l)[j * 2]? = some (.int .i64 (atL l j)) ∧ (cellsL l)[j * 2 + 1]? = some (.int .i64 (szL l j))
  | [], j, h => by simp at h
  | p :: l, 0, _ => ⟨rfl, rfl⟩
  | p :: l, j + 1, h => by
    have ih := cellsL_at l j (by simpa using h)
    have e1 : (j + 1) * 2 = j * 2 + 2 := by omega
    have e2 : (j + 1) * 2 + 1 = j * 2 + 1 + 2 := by omega
    rw [e2, e1]
    exact ih
theorem oneCells (l : List (Int × Int)) : ∀ u ∈ cellsL l, u.oneCell' = true := by
  intro u hu
  unfold cellsL at hu
  rw [List.mem_flatMap] at hu
  obtain ⟨p, _, hu⟩ := hu
  simp at hu
  rcases hu with rfl | rfl <;> rfl
theorem rowAtOwns {w : World} {base e : Nat} {v : Value} {n : Nat} {l : List (Int × Int)} (h : w.ownsRow base e 2 v n (cellsL l)) : RowAt w v l := by
  have h' := h
  obtain ⟨h0, ⟨rfl, rfl⟩ | ⟨g, cap, cur, rfl, hb, hg, hn, hc, hs, ht⟩⟩ := h
  · refine Or.inl ⟨rfl, ?_⟩
    rw [cellsL_len] at h0
    cases l with
    | nil => rfl
    | cons _ _ => simp at h0
  · rw [cellsL_len] at h0
    have hl : l.length = n := by omega
    refine Or.inr ⟨g, 0, n, cap, rfl, hl, ⟨hn, by unfold maxLen at hc; omega⟩, fun j hj => ?_, fun j hj => ?_⟩
    · rw [Nat.zero_add, h'.cellAt (j * 2) (by omega)]; exact (cellsL_at l j (by omega)).1
    · rw [Nat.zero_add, h'.cellAt (j * 2 + 1) (by omega)]; exact (cellsL_at l j (by omega)).2
/-- A row that a call has made. -/
def Fresh (w : World) (v : Value) : Prop := ∀ (b off n c : Nat), v = .slice (some ⟨b, off, none⟩) n c → w.heap.size ≤ b
theorem freshOwns {w w0 : World} {base e size n : Nat} {v : Value} {xs : List Value} (h : w.ownsRow base e size v n xs) (hb : w0.heap.size ≤ base) : Fresh w0 v := by
  intro b off m c hv
  obtain ⟨_, ⟨rfl, _⟩ | ⟨g, cap, cur, rfl, hg, _⟩⟩ := h
  · cases hv
  · cases hv; omega
/-- A new row is returned, which reads as l. -/
def Makes (l : List (Int × Int)) (w : World) (e : Ending) (w' : World) : Prop := ∃ v, e = .returned v ∧ RowAt w' v l ∧ Keep w w' ∧ Fresh w v
theorem cell_two_new (w : World) (a b : Value) (t : TypeId) : ∀ (j : Nat) u, [a, b][j]? = some u → (w.alloc (.cells #[a, b] t)).cell? ((⟨w.heap.size, 0, none⟩ : Addr).add j) = some u := by
  intro j u hj
  match j, hj with
  | 0, hj => simp at hj; subst hj; simp [Addr.add]
  | 1, hj => simp at hj; subst hj; simp [Addr.add]
  | j + 2, hj => simp at hj
theorem infoArrival : (Try.prog.info? 35).map (fun i => (i.zero, i.size, i.bytes)) = some (some (.agg #[.int .i64 0, .int .i64 0]), 2, 16) := by kernel_rfl

/-! ### A draft -/
/-- A slice of small numbers that reads as the list l. -/
def U16At (w : World) (v : Value) (l : List Int) : Prop :=
  (∀ z ∈ l, 0 ≤ z ∧ z ≤ 65535) ∧ ((v = .slice none 0 0 ∧ l = []) ∨ ∃ b off n cap, v = .slice (some ⟨b, off, none⟩) n cap ∧ l.length = n ∧ n ≤ 9223372036854775807 ∧ ∀ j, j < n → w.cell? ⟨b, off + j, none⟩ = some (.int .u16 (l.getD j 0)))
theorem U16At.keep {w w' : World} {v : Value} {l : List Int} (h : U16At w v l) (k : Keep w w') : U16At w' v l := by
  refine ⟨h.1, ?_⟩
  rcases h.2 with h | ⟨b, off, n, cap, h1, h2, h3, h4⟩
  · exact Or.inl h
  · exact Or.inr ⟨b, off, n, cap, h1, h2, h3, fun j hj => k.some (h4 j hj)⟩
theorem U16At.form {w : World} {v : Value} {l : List Int} (h : U16At w v l) : ∃ a n cap, v = .slice a n cap ∧ l.length = n ∧ n ≤ 9223372036854775807 ∧ ∀ j, j < n → ∃ b off, a = some ⟨b, off, none⟩ ∧ w.cell? ⟨b, off + j, none⟩ = some (.int .u16 (l.getD j 0)) := by
  rcases h.2 with ⟨rfl, rfl⟩ | ⟨b, off, n, cap, rfl, h2, h3, h4⟩
  · exact ⟨none, 0, 0, rfl, rfl, by omega, fun j hj => absurd hj (Nat.not_lt_zero _)⟩
  · exact ⟨_, n, cap, rfl, h2, h3, fun j hj => ⟨b, off, rfl, h4 j hj⟩⟩
theorem getD_bd {l : List Int} (h : ∀ z ∈ l, 0 ≤ z ∧ z ≤ 65535) (j : Nat) : 0 ≤ l.getD j 0 ∧ l.getD j 0 ≤ 65535 := by
  rw [List.getD_eq_getElem?_getD]
  cases e : l[j]? with
  | none => simp
  | some z => simpa using h z (List.mem_of_getElem? e)

/-- The draft whose burst and rate read B and R, whose gaps and sizes read gs and ss. -/
structure DraftAt (w : World) (D : Value) (B R : Int) (gs ss : List Int) : Prop where
  form : ∃ g s, D = .agg #[.int .u32 B, .int .u32 R, g, s] ∧ U16At w g gs ∧ U16At w s ss
  bB : 0 ≤ B ∧ B ≤ 4294967295
  bR : 0 ≤ R ∧ R ≤ 4294967295
theorem DraftAt.keep {w w' : World} {D : Value} {B R : Int} {gs ss : List Int} (h : DraftAt w D B R gs ss) (k : Keep w w') : DraftAt w' D B R gs ss := by
  obtain ⟨⟨g, s, e, h1, h2⟩, h3, h4⟩ := h
  exact ⟨⟨g, s, e, h1.keep k, h2.keep k⟩, h3, h4⟩

def bOf (B : Int) : Int := 1 + B % 1048576
def rOf (R : Int) : Int := 1 + R % 2097152
theorem okBk_of (B R : Int) : okBk (bOf B) (rOf R) = true := okBk_iff.2 (by unfold bOf rOf; omega)
/-- The time when k gaps have passed. -/
def atD (gs : List Int) : Nat → Int
  | 0 => 0
  | k + 1 => atD gs k + gs.getD k 0
def traceD (gs ss : List Int) (m : Nat) : List (Int × Int) := (List.range m).map fun i => (atD gs (i + 1), 1 + ss.getD i 0)
theorem traceD_succ (gs ss : List Int) (m : Nat) : traceD gs ss (m + 1) = traceD gs ss m ++ [(atD gs (m + 1), 1 + ss.getD m 0)] := by unfold traceD; rw [List.range_succ, List.map_append]; rfl
theorem traceD_len (gs ss : List Int) (m : Nat) : (traceD gs ss m).length = m := by simp [traceD]
theorem traceD_at (gs ss : List Int) {m k : Nat} (h : k < m) : atL (traceD gs ss m) k = atD gs (k + 1) ∧ szL (traceD gs ss m) k = 1 + ss.getD k 0 := by
  unfold atL szL traceD
  simp [List.getD, h]
theorem atD_bd {gs : List Int} (h : ∀ z ∈ gs, 0 ≤ z ∧ z ≤ 65535) : ∀ k : Nat, 0 ≤ atD gs k ∧ atD gs k ≤ k * 65535
  | 0 => by simp [atD]
  | k + 1 => by
    have := atD_bd h k
    have := getD_bd h k
    simp only [atD]
    omega
theorem okT_traceD {gs ss : List Int} (hg : ∀ z ∈ gs, 0 ≤ z ∧ z ≤ 65535) (hs : ∀ z ∈ ss, 0 ≤ z ∧ z ≤ 65535) {m : Nat} (hm : m ≤ 30) : okT (traceD gs ss m) = true := by
  refine okT_iff.2 ⟨by rw [traceD_len]; omega, ?_⟩
  rw [traceD_len]
  refine okSteps_iff.2 fun k hk => ?_
  unfold okStep
  rw [decide_eq_true_eq, (traceD_at gs ss hk).1, (traceD_at gs ss hk).2]
  have a1 := atD_bd hg (k + 1)
  have a2 := getD_bd hs k
  refine ⟨?_, by omega, by omega, by omega⟩
  cases k with
  | zero => exact a1.1
  | succ k =>
    show atL _ k ≤ _
    rw [(traceD_at gs ss (by omega)).1]
    have := getD_bd hg (k + 1)
    show atD gs (k + 1) ≤ atD gs (k + 1) + gs.getD (k + 1) 0
    omega

theorem draftBucket_slices (B R : Int) (ga sa : Option Addr) (gl gc sl sc : Nat) (w : World) (bB : 0 ≤ B ∧ B ≤ 4294967295) (bR : 0 ≤ R ∧ R ≤ 4294967295) (X Y : Int) (HX : Hid (bOf B = X)) (HY : Hid (rOf R = Y)) :
    Calls Try.prog 5 #[.agg #[.int .u32 B, .int .u32 R, .slice ga gl gc, .slice sa sl sc]] w (Res (.agg #[.int .i64 X, .int .i64 Y]) w) := by
  obtain ⟨x, hx⟩ : ∃ x, B.tmod 1048576 = x := ⟨_, rfl⟩
  obtain ⟨y, hy⟩ : ∃ y, R.tmod 2097152 = y := ⟨_, rfl⟩
  have ex : 1 + x = X := by rw [← HX.out, ← hx, Int.tmod_eq_emod_of_nonneg bB.1]; rfl
  have ey : 1 + y = Y := by rw [← HY.out, ← hy, Int.tmod_eq_emod_of_nonneg bR.1]; rfl
  have bx : 0 ≤ x ∧ x < 1048576 := by rw [← hx, Int.tmod_eq_emod_of_nonneg bB.1]; omega
  have bY : 0 ≤ y ∧ y < 2097152 := by rw [← hy, Int.tmod_eq_emod_of_nonneg bR.1]; omega
  go_enter Try.func5, Try.ntmps5
  go_wp2
  exact bodyPost_ret (v := .agg #[.int .i64 X, .int .i64 Y]) (by simp [results, Try.results5, go_sem]) rfl ⟨rfl, keepOf (by go_grown)⟩

theorem draftBucket_any (D : Value) (B R : Int) (gs ss : List Int) (w : World) (h : DraftAt w D B R gs ss) (X Y : Int) (HX : Hid (bOf B = X)) (HY : Hid (rOf R = Y)) :
    Calls Try.prog 5 #[D] w (Res (.agg #[.int .i64 X, .int .i64 Y]) w) := by
  obtain ⟨⟨g, s, rfl, h1, h2⟩, h3, h4⟩ := h
  obtain ⟨ga, gl, gc, rfl, -⟩ := h1.form
  obtain ⟨sa, sl, sc, rfl, -⟩ := h2.form
  exact draftBucket_slices B R ga sa gl gc sl sc w h3 h4 X Y HX HY

set_option maxRecDepth 100000 in
set_option maxHeartbeats 2000000 in
theorem draftTrace_slices (B R : Int) (ga sa : Option Addr) (gl gc sl sc : Nat) (gs ss : List Int) (w : World) (hg : U16At w (.slice ga gl gc) gs) (hs : U16At w (.slice sa sl sc) ss) (hgl : gs.length = gl) (hsl : ss.length = sl) (_hgm : gl ≤ 9223372036854775807) (hsm : sl ≤ 9223372036854775807)
    (hgc : ∀ j, j < gl → ∃ b off, ga = some ⟨b, off, none⟩ ∧ w.cell? ⟨b, off + j, none⟩ = some (.int .u16 (gs.getD j 0))) (hsc : ∀ j, j < sl → ∃ b off, sa = some ⟨b, off, none⟩ ∧ w.cell? ⟨b, off + j, none⟩ = some (.int .u16 (ss.getD j 0))) :
    Calls Try.prog 13 #[.agg #[.int .u32 B, .int .u32 R, .slice ga gl gc, .slice sa sl sc]] w (Makes (traceD gs ss (min ss.length 30)) w) := by
  obtain ⟨i0, hi, hz0, hz1, hz2⟩ := info_parts infoArrival
  have HG := Lib.hid hgc
  have HS := Lib.hid hsc
  have BG := Lib.hid hg.1
  have BS := Lib.hid hs.1
  have HL := Lib.hid hgl
  have HM := Lib.hid hsl
  clear hgc hsc hg hs hgl hsl
  go_enter Try.func13, Try.ntmps13
  go_wp2
  have d2 : (w.alloc (.cells #[.int .u32 B, .int .u32 R, .slice ga gl gc, .slice sa sl sc] 25)).cell? ⟨w.heap.size, 2, none⟩ = some (.slice ga gl gc) := by simp [go_sem]
  have d3 : (w.alloc (.cells #[.int .u32 B, .int .u32 R, .slice ga gl gc, .slice sa sl sc] 25)).cell? ⟨w.heap.size, 3, none⟩ = some (.slice sa sl sc) := by simp [go_sem]
  have K0 := Lib.hid (Keep.alloc (Keep.refl w) (.cells #[.int .u32 B, .int .u32 R, .slice ga gl gc, .slice sa sl sc] 25))
  obtain ⟨W1, hW1⟩ : ∃ W1, w.alloc (.cells #[.int .u32 B, .int .u32 R, .slice ga gl gc, .slice sa sl sc] 25) = W1 := ⟨_, rfl⟩
  rw [hW1] at d2 d3 K0 ⊢
  clear hW1
  go_loopw [3, 4, 5] (fun s3 s4 s5 wr => ∃ (k : Nat) (t : Int), k ≤ sl ∧ k ≤ 30 ∧ s5 = .int .i64 k ∧ s4 = .int .i64 t ∧ Hid (atD gs k = t ∧ wr.ownsRow W1.heap.size 35 2 s3 k (cellsL (traceD gs ss k)) ∧ Keep W1 wr)) (fun _ _ i _ => 30 - (intOf i).toNat)
  case atStart => exact ⟨0, 0, Nat.zero_le _, Nat.zero_le _, rfl, rfl, Lib.hid ⟨rfl, World.ownsRow_nil _ _ _ _, Keep.refl _⟩⟩
  case round =>
    obtain ⟨k, t, hk1, hk2, rfl, rfl, HK⟩ := hrel
    have e2 := HK.out.2.2.some d2
    have e3 := HK.out.2.2.some d3
    have K1 := K0.out.trans HK.out.2.2
    have tb := atD_bd BG.out k
    rw [HK.out.1] at tb
    by_cases h1 : k < sl
    · by_cases h2 : k < 30
      · obtain ⟨b, off, rfl, c⟩ := HS.out k h1
        have c0 := K1.some c
        have zb := getD_bd BS.out k
        obtain ⟨z, hz⟩ : ∃ z, ss.getD k 0 = z := ⟨_, rfl⟩
        rw [hz] at zb c0 c
        have HZ := Lib.hid hz
        clear hz
        by_cases h3 : k < gl
        · skip
          obtain ⟨b', off', rfl, c'⟩ := HG.out k h3
          have c1 := K1.some c'
          have yb := getD_bd BG.out k
          obtain ⟨y, hy⟩ : ∃ y, gs.getD k 0 = y := ⟨_, rfl⟩
          rw [hy] at yb c1 c'
          have HY := Lib.hid hy
          clear hy
          go_wp2_with (at_builtin; refine wpList_append_lies _ rfl _ _ 32 rfl W1.heap.size 35 i0 (.agg #[.int .i64 0, .int .i64 0]) 2 16 Try.underlying32 hi hz0 hz1 hz2 rfl (by decide) _ _ _ rfl (HK.out.2.1.alloc _) ⟨wr.heap.size, 0, none⟩ 1 1 [.int .i64 (t + y), .int .i64 (1 + z)] rfl rfl (cell_two_new _ _ _ _) (by intro u hu; simp at hu; rcases hu with rfl | rfl <;> rfl) (by omega) (by unfold maxLen; omega) (by omega) (by have := HK.out.2.2.size; simp; omega) _ rfl ?_; intro g cap w3 hown3 hgrow3 _ _)
          go_roundw
          case rel =>
            refine ⟨k + 1, t + y, by omega, by omega, rfl, rfl, Lib.hid ⟨by simp only [atD]; rw [HK.out.1, HY.out], ?_, (HK.out.2.2.alloc _).byRow hgrow3 (fun j hj => (HK.out.2.1.lt j hj).1)⟩⟩
            rw [traceD_succ, cellsL_append, show atD gs (k + 1) = t + y by simp only [atD]; rw [HK.out.1, HY.out], HZ.out]
            exact hown3
          case measure => simp [intOf]; omega
        · skip
          have hy : gs.getD k 0 = 0 := by have := HL.out; simp [List.getD]; rw [List.getElem?_eq_none (by omega)]; rfl
          have HY := Lib.hid hy
          clear hy
          go_wp2_with (at_builtin; refine wpList_append_lies _ rfl _ _ 32 rfl W1.heap.size 35 i0 (.agg #[.int .i64 0, .int .i64 0]) 2 16 Try.underlying32 hi hz0 hz1 hz2 rfl (by decide) _ _ _ rfl (HK.out.2.1.alloc _) ⟨wr.heap.size, 0, none⟩ 1 1 [.int .i64 (t), .int .i64 (1 + z)] rfl rfl (cell_two_new _ _ _ _) (by intro u hu; simp at hu; rcases hu with rfl | rfl <;> rfl) (by omega) (by unfold maxLen; omega) (by omega) (by have := HK.out.2.2.size; simp; omega) _ rfl ?_; intro g cap w3 hown3 hgrow3 _ _)
          go_roundw
          case rel =>
            refine ⟨k + 1, t, by omega, by omega, rfl, rfl, Lib.hid ⟨by simp only [atD]; rw [HK.out.1, HY.out]; omega, ?_, (HK.out.2.2.alloc _).byRow hgrow3 (fun j hj => (HK.out.2.1.lt j hj).1)⟩⟩
            rw [traceD_succ, cellsL_append, show atD gs (k + 1) = t by simp only [atD]; rw [HK.out.1, HY.out]; omega, HZ.out]
            exact hown3
          case measure => simp [intOf]; omega
      · have hm : min ss.length 30 = k := by have := HM.out; omega
        have h2' : 30 ≤ k := by omega
        go_wp2
        go_ret
        exact ⟨_, rfl, by rw [hm]; exact rowAtOwns HK.out.2.1, K1, freshOwns HK.out.2.1 K0.out.size⟩
    · have hm : min ss.length 30 = k := by have := HM.out; omega
      have h1' : sl ≤ k := by omega
      go_wp2
      go_ret
      exact ⟨_, rfl, by rw [hm]; exact rowAtOwns HK.out.2.1, K1, freshOwns HK.out.2.1 K0.out.size⟩

theorem draftTrace_any (D : Value) (B R : Int) (gs ss : List Int) (w : World) (h : DraftAt w D B R gs ss) (l : List (Int × Int)) (Hl : Hid (traceD gs ss (min ss.length 30) = l)) :
    Calls Try.prog 13 #[D] w (Makes l w) := by
  obtain ⟨⟨g, s, rfl, h1, h2⟩, h3, h4⟩ := h
  obtain ⟨ga, gl, gc, rfl, g1, g2, g3⟩ := h1.form
  obtain ⟨sa, sl, sc, rfl, s1, s2, s3⟩ := h2.form
  have := draftTrace_slices B R ga sa gl gc sl sc gs ss w h1 h2 g1 s1 g2 s2 g3 s3
  rwa [Hl.out] at this

end Go.Proofs.Ytaknbjjcgcmdlaa
