/- What a draft's Conforming returns: of its trace what conforms. Written by genconf.py. -/
import Derived.Test.YtaknbjjcgcmdlaaRow
import Derived.Test.YtaknbjjcgcmdlaaRefFirst
import Derived.Deep.DeepCutAuto
import Derived.Deep.CutRange
namespace Go.Proofs.Ytaknbjjcgcmdlaa
open Go Go.RowKit

theorem draftBucket_is (D : Value) (B R : Int) (gs ss : List Int) (w : World) (h : Hid (DraftAt w D B R gs ss)) (X Y : Int) (HX : Hid (bOf B = X)) (HY : Hid (rOf R = Y)) :
    Calls Try.prog 5 #[D] w (Res (.agg #[.int .i64 X, .int .i64 Y]) w) := draftBucket_any D B R gs ss w h.out X Y HX HY
theorem draftTrace_is (D : Value) (B R : Int) (gs ss : List Int) (w : World) (h : Hid (DraftAt w D B R gs ss)) (l : List (Int × Int)) (Hl : Hid (traceD gs ss (min ss.length 30) = l)) :
    Calls Try.prog 13 #[D] w (Makes l w) := draftTrace_any D B R gs ss w h.out l Hl

/-! ### What conforms -/
def confStep (B R : Int) (out : List (Int × Int)) (a : Int × Int) : List (Int × Int) := if fitsL B R (out ++ [a]) then out ++ [a] else out
def confL (B R : Int) (l : List (Int × Int)) : List (Int × Int) := l.foldl (confStep B R) []
theorem confL_succ (B R : Int) (l : List (Int × Int)) (k : Nat) (hk : k < l.length) : confL B R (l.take (k + 1)) = confStep B R (confL B R (l.take k)) (l.getD k (0, 0)) := by
  unfold confL
  rw [List.take_succ_eq_append_getElem hk, List.foldl_append]
  simp [List.getD, List.getElem?_eq_getElem hk]
theorem confL_sub (B R : Int) : ∀ (l : List (Int × Int)) (k : Nat), k ≤ l.length → (confL B R (l.take k)).Sublist (l.take k)
  | l, 0, _ => by simp [confL]
  | l, k + 1, h => by
    rw [confL_succ B R l k (by omega), List.take_succ_eq_append_getElem (by omega)]
    have ih := confL_sub B R l k (by omega)
    unfold confStep
    have e : l.getD k (0, 0) = l[k] := by simp [List.getD, List.getElem?_eq_getElem (show k < l.length by omega)]
    split
    · rw [e]; exact List.Sublist.append ih (List.Sublist.refl _)
    · exact ih.trans (List.sublist_append_left _ _)
theorem okT_pair {l : List (Int × Int)} : okT l = true ↔ l.length ≤ 200 ∧ (∀ x ∈ l, 0 ≤ x.1 ∧ x.1 ≤ 1099511627776 ∧ 1 ≤ x.2 ∧ x.2 ≤ 1048576) ∧ l.Pairwise (fun x y => x.1 ≤ y.1) := by
  have ea : ∀ k (h : k < l.length), atL l k = l[k].1 ∧ szL l k = l[k].2 := fun k h => by unfold atL szL; simp [List.getD, List.getElem?_eq_getElem h]
  rw [okT_iff]
  constructor
  · rintro ⟨h1, h2⟩
    refine ⟨h1, fun x hx => ?_, List.pairwise_iff_getElem.2 fun i j hi hj hij => ?_⟩
    · obtain ⟨k, hk, rfl⟩ := List.getElem_of_mem hx
      have := okSteps_bd h2 k hk
      rw [(ea k hk).1, (ea k hk).2] at this
      omega
    · have := okSteps_mono h2 j hj i (by omega)
      rw [(ea i hi).1, (ea j hj).1] at this
      exact this
  · rintro ⟨h1, h2, h3⟩
    refine ⟨h1, okSteps_iff.2 fun k hk => ?_⟩
    have hm := h2 l[k] (List.getElem_mem hk)
    unfold okStep
    rw [decide_eq_true_eq, (ea k hk).1, (ea k hk).2]
    refine ⟨?_, hm.2⟩
    cases k with
    | zero => exact hm.1
    | succ k =>
      show atL l k ≤ _
      rw [(ea k (by omega)).1]
      exact List.pairwise_iff_getElem.1 h3 k (k + 1) (by omega) hk (by omega)
theorem okT_sub {l m : List (Int × Int)} (h : okT l = true) (hs : m.Sublist l) : okT m = true := by
  obtain ⟨h1, h2, h3⟩ := okT_pair.1 h
  exact okT_pair.2 ⟨Nat.le_trans hs.length_le h1, fun x hx => h2 x (hs.subset hx), h3.sublist hs⟩
theorem okT_next {B R : Int} {l : List (Int × Int)} {k : Nat} (h : okT l = true) (hk : k < l.length) : okT (confL B R (l.take k) ++ [l.getD k (0, 0)]) = true := by
  refine okT_sub h (List.Sublist.trans ?_ (List.take_sublist (k + 1) l))
  rw [List.take_succ_eq_append_getElem hk, show l.getD k (0, 0) = l[k] by simp [List.getD, List.getElem?_eq_getElem hk]]
  exact List.Sublist.append (confL_sub B R l k (by omega)) (List.Sublist.refl _)

/-! ### The rows that come up in the region -/
theorem ownsKeep {w w' : World} {base e size n : Nat} {v : Value} {xs : List Value} (h : w.ownsRow base e size v n xs) (k : Keep w w') : w'.ownsRow base e size v n xs := by
  obtain ⟨h0, h | ⟨g, cap, cur, h1, h2, h3, h4⟩⟩ := h
  · exact ⟨h0, Or.inl h⟩
  · have hg : g < w.heap.size := (Array.getElem?_eq_some_iff.1 h3).1
    exact ⟨h0, Or.inr ⟨g, cap, cur, h1, h2, (k.block g hg).trans h3, h4⟩⟩
def E0 (p : Prop) (base : Nat) (w : World) (u : Value) : Prop := p ∨ ∃ N, u = .slice (some ⟨N, 0, none⟩) 0 0 ∧ base ≤ N ∧ w.heap[N]? = some (.cells #[] 35)
theorem E0.keep {p q : Prop} {base : Nat} {w w' : World} {u : Value} (h : E0 p base w u) (k : Keep w w') (hpq : p → q) : E0 q base w' u := by
  rcases h with h | ⟨N, h1, h2, h3⟩
  · exact Or.inl (hpq h)
  · exact Or.inr ⟨N, h1, h2, (k.block N (Array.getElem?_eq_some_iff.1 h3).1).trans h3⟩
def E2 (p : Prop) (base n : Nat) (out : List (Int × Int)) (w : World) (u : Value) : Prop := p ∨ ∃ g c, u = .slice (some ⟨g, 0, none⟩) n c ∧ w.ownsRow base 35 2 (.slice (some ⟨g, 0, none⟩) n c) n (cellsL out)
theorem E2.keep {p q : Prop} {base n : Nat} {out : List (Int × Int)} {w w' : World} {u : Value} (h : E2 p base n out w u) (k : Keep w w') (hpq : p → q) : E2 q base n out w' u := by
  rcases h with h | ⟨g, c, h1, h2⟩
  · exact Or.inl (hpq h)
  · exact Or.inr ⟨g, c, h1, ownsKeep h2 k⟩
def E7 (p : Prop) (x y : Int) (w : World) (u : Value) : Prop := p ∨ ∃ Y, u = .slice (some ⟨Y, 0, none⟩) 1 1 ∧ w.cell? ⟨Y, 0, none⟩ = some (.int .i64 x) ∧ w.cell? ⟨Y, 1, none⟩ = some (.int .i64 y)
theorem E7.keep {p q : Prop} {x y : Int} {w w' : World} {u : Value} (h : E7 p x y w u) (k : Keep w w') (hpq : p → q) : E7 q x y w' u := by
  rcases h with h | ⟨Y, h1, h2, h3⟩
  · exact Or.inl (hpq h)
  · exact Or.inr ⟨Y, h1, k.some h2, k.some h3⟩
theorem E7.app {p q : Prop} {x y : Int} {w w' : World} {u : Value} {N t : Nat} (h : E7 p x y w u) (hN : w.heap[N]? = some (.cells #[] t)) (hg : w.grownBy w' (some N)) (hpq : p → q) : E7 q x y w' u := by
  rcases h with h | ⟨Y, h1, h2, h3⟩
  · exact Or.inl (hpq h)
  · have hne : Y ≠ N := by
      rintro rfl
      simp [World.cell?, hN] at h2
    exact Or.inr ⟨Y, h1, hg.cell h2 (fun e => hne (by simpa using e)), hg.cell h3 (fun e => hne (by simpa using e))⟩
def E8 (base n : Nat) (out : List (Int × Int)) (x y : Int) (w : World) (u : Value) : Prop := ∃ g c, u = .slice (some ⟨g, 0, none⟩) (n + 1) c ∧ w.ownsRow base 35 2 (.slice (some ⟨g, 0, none⟩) (n + 1) c) (n + 1) (cellsL (out ++ [(x, y)]))
theorem E8.keep {base n : Nat} {out : List (Int × Int)} {x y : Int} {w w' : World} {u : Value} (h : E8 base n out x y w u) (k : Keep w w') : E8 base n out x y w' u := by
  obtain ⟨g, c, h1, h2⟩ := h
  exact ⟨g, c, h1, ownsKeep h2 k⟩
theorem cells_two {w : World} {Y : Nat} {a b : Value} (h0 : w.cell? ⟨Y, 0, none⟩ = some a) (h1 : w.cell? ⟨Y, 1, none⟩ = some b) : ∀ (j : Nat) u, [a, b][j]? = some u → w.cell? ((⟨Y, 0, none⟩ : Addr).add j) = some u := by
  intro j u hj
  match j, hj with
  | 0, hj => simp at hj; subst hj; simpa [Addr.add] using h0
  | 1, hj => simp at hj; subst hj; simpa [Addr.add] using h1
  | j + 2, hj => simp at hj
theorem RowAt.form {w : World} {v : Value} {l : List (Int × Int)} (h : RowAt w v l) : ∃ a0 cap, v = .slice a0 l.length cap ∧ ∀ j, j < l.length → ∃ b off, a0 = some ⟨b, off, none⟩ ∧ w.cell? ⟨b, off + j * 2, none⟩ = some (.int .i64 (atL l j)) ∧ w.cell? ⟨b, off + j * 2 + 1, none⟩ = some (.int .i64 (szL l j)) := by
  rcases h with ⟨rfl, rfl⟩ | ⟨b, off, n, cap, rfl, rfl, h3, h4, h5⟩
  · exact ⟨none, 0, rfl, fun j hj => absurd hj (Nat.not_lt_zero _)⟩
  · exact ⟨_, cap, rfl, fun j hj => ⟨b, off, rfl, h4 j hj, h5 j hj⟩⟩

set_option maxRecDepth 100000 in
set_option maxHeartbeats 4000000 in
theorem conf_slices (B R : Int) (ga sa : Option Addr) (gl gc sl sc : Nat) (gs ss : List Int) (w : World) (hD : Hid (DraftAt w (.agg #[.int .u32 B, .int .u32 R, .slice ga gl gc, .slice sa sl sc]) B R gs ss)) (X Y : Int) (HX : Hid (bOf B = X)) (HY : Hid (rOf R = Y)) (l : List (Int × Int)) (Hl : Hid (traceD gs ss (min ss.length 30) = l)) (Hok : Hid (okT l = true)) (Hb : Hid (okBk X Y = true)) (hlen30 : l.length ≤ 30) :
    Calls Try.prog 6 #[.agg #[.int .u32 B, .int .u32 R, .slice ga gl gc, .slice sa sl sc]] w (Makes (confL X Y l) w) := by
  obtain ⟨i0, hi, hz0, hz1, hz2⟩ := info_parts infoArrival
  go_enter Try.func6, Try.ntmps6
  go_upto_region 2 with fail
  have d0 : (w.alloc (.cells #[.int .u32 B, .int .u32 R, .slice ga gl gc, .slice sa sl sc] 25)).cell? ⟨w.heap.size, 0, none⟩ = some (.int .u32 B) := by simp [go_sem]
  have d1 : (w.alloc (.cells #[.int .u32 B, .int .u32 R, .slice ga gl gc, .slice sa sl sc] 25)).cell? ⟨w.heap.size, 1, none⟩ = some (.int .u32 R) := by simp [go_sem]
  have d2 : (w.alloc (.cells #[.int .u32 B, .int .u32 R, .slice ga gl gc, .slice sa sl sc] 25)).cell? ⟨w.heap.size, 2, none⟩ = some (.slice ga gl gc) := by simp [go_sem]
  have d3 : (w.alloc (.cells #[.int .u32 B, .int .u32 R, .slice ga gl gc, .slice sa sl sc] 25)).cell? ⟨w.heap.size, 3, none⟩ = some (.slice sa sl sc) := by simp [go_sem]
  have K0 := Lib.hid (Keep.alloc (Keep.refl w) (.cells #[.int .u32 B, .int .u32 R, .slice ga gl gc, .slice sa sl sc] 25))
  have HD := Lib.hid (hD.out.keep K0.out)
  obtain ⟨W0, hW0⟩ : ∃ W0, w.alloc (.cells #[.int .u32 B, .int .u32 R, .slice ga gl gc, .slice sa sl sc] 25) = W0 := ⟨_, rfl⟩
  rw [hW0] at d0 d1 d2 d3 K0 HD ⊢
  clear hW0
  refine region_inv (J := fun bb aa ww => ∃ v4 v5 v8 v9 v10 v11 : Value, aa = ⟨#[.agg #[.int .u32 B, .int .u32 R, .slice ga gl gc, .slice sa sl sc], .pointer (some ⟨w.heap.size, 0, none⟩), .slice none 0 0, .slice none 0 0, v4, v5, undef, undef, v8, v9, v10, v11, undef, undef, undef, undef, undef, undef, undef, undef, undef, undef, undef, undef, undef, undef, undef, undef, undef, undef, undef, undef], []⟩ ∧ Keep W0 ww ∧ (bb 0 → v8 = .agg #[.int .u32 B, .int .u32 R, .slice ga gl gc, .slice sa sl sc]) ∧ (bb 1 → v9 = .agg #[.int .i64 X, .int .i64 Y]) ∧ (bb 2 → v10 = .agg #[.int .u32 B, .int .u32 R, .slice ga gl gc, .slice sa sl sc]) ∧ (bb 3 → RowAt ww v11 (l)) ∧ (bb 4 → VarAt W0 ww v4 (bb 5) (.int .i64 X) (.int .i64 Y)) ∧ (bb 5 → bb 4) ∧ (bb 6 → bb 3 ∧ v5 = v11) ∧ (bb 4 → bb 3 → Off v4 v11)) (by kernel_rfl) (by kernel_rfl) ?donew ?startw ?stepsw
  case donew =>
    rintro bb aa ww hb ⟨v4, v5, v8, v9, v10, v11, rfl, G, f0, f1, f2, f3, f4, f5, f6, o4_3⟩
    have g0 := f0 (hb 0 (by decide))
    have g1 := f1 (hb 1 (by decide))
    have g2 := f2 (hb 2 (by decide))
    have g3 := f3 (hb 3 (by decide))
    have g4 := f4 (hb 4 (by decide))
    have g6 := f6 (hb 6 (by decide))
    have p4_3 := o4_3 (hb 4 (by decide)) (hb 3 (by decide))
    obtain rfl := g0
    obtain rfl := g1
    obtain rfl := g2
    obtain ⟨-, rfl⟩ := g6
    obtain ⟨X4, x4, y4, rfl, hX4, ⟨hc4, hd4⟩, ⟨hf4, hg4⟩, hs4⟩ := g4
    obtain ⟨rfl, rfl⟩ := hs4 (hb 5 (by decide))
    clear f0 f1 f2 f3 f4 f5 f6 o4_3
    have KW := Lib.hid (K0.out.trans G)
    have RL := Lib.hid g3
    obtain ⟨a0, cap0, rfl, hel⟩ := g3.form
    have HEL := Lib.hid hel
    clear hel hb g3 p4_3 hs4 hD HD d0 d1 d2 d3 K0
    go_wp2
    go_loopw [3, 6] (fun s3 s6 wr => ∃ k : Nat, k ≤ l.length ∧ s6 = .int .i64 k ∧ Hid (RowAt wr s3 (confL X Y (l.take k)) ∧ Fresh w s3 ∧ Keep ww wr)) (fun _ i _ => l.length - (intOf i).toNat)
    case atStart => exact ⟨0, Nat.zero_le _, rfl, Lib.hid ⟨Or.inl ⟨rfl, by simp [confL]⟩, fun _ _ _ _ h => (by cases h), Keep.refl _⟩⟩
    case round =>
      obtain ⟨k, hk, rfl, HR⟩ := hrel
      by_cases hlt : k < l.length
      · obtain ⟨b, off, rfl, c0, c1⟩ := HEL.out k hlt
        have c0 := HR.out.2.2.some c0
        have c1 := HR.out.2.2.some c1
        have v0 := HR.out.2.2.some hc4
        have v1 := HR.out.2.2.some hd4
        have hnext : confL X Y (l.take (k + 1)) = confStep X Y (confL X Y (l.take k)) (l.getD k (0, 0)) := confL_succ X Y l k hlt
        have hokn : okT (confL X Y (l.take k) ++ [l.getD k (0, 0)]) = true := okT_next Hok.out hlt
        have hpair : l.getD k (0, 0) = (atL l k, szL l k) := rfl
        rw [hpair] at hnext hokn
        obtain ⟨x, hx⟩ : ∃ x, atL l k = x := ⟨_, rfl⟩
        obtain ⟨y, hy⟩ : ∃ y, szL l k = y := ⟨_, rfl⟩
        rw [hx] at c0 hnext hokn
        rw [hy] at c1 hnext hokn
        have hsub := (confL_sub X Y l k (by omega)).length_le
        rw [List.length_take] at hsub
        obtain ⟨out, hout⟩ : ∃ out, confL X Y (l.take k) = out := ⟨_, rfl⟩
        have HO := Lib.hid HR.out
        rw [hout] at hsub hnext hokn HO
        obtain ⟨n, hlen⟩ : ∃ n, out.length = n := ⟨_, rfl⟩
        rw [hlen] at hsub
        have HN := Lib.hid hnext
        have HK := Lib.hid hokn
        clear hpair hnext hokn hx hy hout HR
        go_upto_region 6 with fail
        refine region_inv (J := fun bb aa wx => ∃ v7 v18 v19 v20 v21 v22 v23 v24 v25 v26 : Value, aa = ⟨#[Value.agg #[Value.int IntKind.u32 B, Value.int IntKind.u32 R, Value.slice ga gl gc, Value.slice sa sl sc], Value.pointer (some { block := w.heap.size, off := 0 }), Value.slice none 0 0, u3, Value.pointer (some { block := X4, off := 0 }), Value.slice (some { block := b, off := off }) l.length cap0, Value.int IntKind.i64 ↑k, v7, Value.agg #[Value.int IntKind.u32 B, Value.int IntKind.u32 R, Value.slice ga gl gc, Value.slice sa sl sc], Value.agg #[Value.int IntKind.i64 X, Value.int IntKind.i64 Y], Value.agg #[Value.int IntKind.u32 B, Value.int IntKind.u32 R, Value.slice ga gl gc, Value.slice sa sl sc], Value.slice (some { block := b, off := off }) l.length cap0, Value.int IntKind.i64 ↑k, Value.slice (some { block := b, off := off }) l.length cap0, Value.int IntKind.i64 ↑l.length, Value.bool true, u16, u17, v18, v19, v20, v21, v22, v23, v24, v25, v26, u27, u28, u29, u30, undef], []⟩ ∧ Keep wr wx ∧ (bb 0 → E0 (bb 2) wr.heap.size wx v18) ∧ (bb 1 → v19 = u3) ∧ (bb 2 → E2 (bb 8) wr.heap.size n out wx v20) ∧ (bb 3 → v21 = .slice (some ⟨b, off, none⟩) l.length cap0) ∧ (bb 4 → v22 = .int .i64 (k : Int)) ∧ (bb 5 → v23 = .pointer (some ⟨b, off + k * 2, none⟩)) ∧ (bb 6 → v24 = .agg #[.int .i64 x, .int .i64 y]) ∧ (bb 7 → E7 (bb 8) x y wx v25) ∧ (bb 8 → (bb 2 ∧ E8 wr.heap.size n out x y wx v26)) ∧ (bb 9 → bb 8 ∧ v7 = v26)) (by kernel_rfl) (by kernel_rfl) ?donex ?startx ?stepsx
        case donex =>
          rintro bb aa wx hb ⟨v7, v18, v19, v20, v21, v22, v23, v24, v25, v26, rfl, G, f0, f1, f2, f3, f4, f5, f6, f7, f8, f9⟩
          have g0 := f0 (hb 0 (by decide))
          have g1 := f1 (hb 1 (by decide))
          have g2 := f2 (hb 2 (by decide))
          have g3 := f3 (hb 3 (by decide))
          have g4 := f4 (hb 4 (by decide))
          have g5 := f5 (hb 5 (by decide))
          have g6 := f6 (hb 6 (by decide))
          have g7 := f7 (hb 7 (by decide))
          have g8 := f8 (hb 8 (by decide))
          have g9 := f9 (hb 9 (by decide))
          obtain rfl := g1
          obtain rfl := g3
          obtain rfl := g4
          obtain rfl := g5
          obtain rfl := g6
          obtain ⟨-, rfl⟩ := g9
          clear f0 f1 f2 f3 f4 f5 f6 f7 f8 f9
          obtain ⟨-, g, c, rfl, hown⟩ := g8
          have RN := Lib.hid (rowAtOwns hown)
          have FN := Lib.hid (freshOwns (w0 := w) hown (by have := KW.out.size; have := HO.out.2.2.size; omega))
          have KX := Lib.hid (HO.out.2.2.trans G)
          have RO := Lib.hid (HO.out.1.keep G)
          have v2 := G.some v0
          have v3 := G.some v1
          clear hb g0 g2 g7 hown
          cases hf : fitsL X Y (out ++ [(x, y)]) with
          | true =>
            have HF := Lib.hid hf
            have HE : Hid (confL X Y (l.take (k + 1)) = out ++ [(x, y)]) := Lib.hid (by rw [HN.out]; unfold confStep; rw [if_pos hf])
            clear hf
            go_wp2_with (go_at_call 14; ((with_reducible refine (fits_is X Y _ _ (out ++ [(x, y)]) _ Hb HK RN HF).mono ?_); rintro e w2 ⟨rfl, k2⟩))
            go_roundw
            case rel => exact ⟨k + 1, by omega, rfl, Lib.hid ⟨by rw [HE.out]; exact RN.out.keep k2, FN.out, KX.out.trans k2⟩⟩
            case measure => simp [intOf]; omega
          | false =>
            have HF := Lib.hid hf
            have HE : Hid (confL X Y (l.take (k + 1)) = out) := Lib.hid (by rw [HN.out]; unfold confStep; rw [if_neg (by rw [hf]; simp)])
            clear hf
            go_wp2_with (go_at_call 14; ((with_reducible refine (fits_is X Y _ _ (out ++ [(x, y)]) _ Hb HK RN HF).mono ?_); rintro e w2 ⟨rfl, k2⟩))
            go_roundw
            case rel => exact ⟨k + 1, by omega, rfl, Lib.hid ⟨by rw [HE.out]; exact RO.out.keep k2, HO.out.2.1, KX.out.trans k2⟩⟩
            case measure => simp [intOf]; omega
        case startx => exact ⟨_, _, _, _, _, _, _, _, _, _, rfl, Keep.drew (Keep.refl _), fun h => h.elim, fun h => h.elim, fun h => h.elim, fun h => h.elim, fun h => h.elim, fun h => h.elim, fun h => h.elim, fun h => h.elim, fun h => h.elim, fun h => h.elim⟩
        case stepsx =>
          refine StepsFrom.cons (k := 0) ?_ (StepsFrom.cons (k := 1) ?_ (StepsFrom.cons (k := 2) ?_ (StepsFrom.cons (k := 3) ?_ (StepsFrom.cons (k := 4) ?_ (StepsFrom.cons (k := 5) ?_ (StepsFrom.cons (k := 6) ?_ (StepsFrom.cons (k := 7) ?_ (StepsFrom.cons (k := 8) ?_ (StepsFrom.cons (k := 9) ?_ (StepsFrom.nil))))))))))
          · -- 0: fact
            rintro bb aa wx hn hd ⟨v7, v18, v19, v20, v21, v22, v23, v24, v25, v26, rfl, G, f0, f1, f2, f3, f4, f5, f6, f7, f8, f9⟩ K hK
            have HK := Lib.hid hK
            clear hK
            go_simp
            exact HK.out _ _ ⟨_, _, _, _, _, _, _, _, _, _, rfl, (G.trans (Keep.alloc (Keep.refl _) _)), fun _ => Or.inr ⟨_, rfl, G.size, World.alloc_heap_new _ _⟩, up (by decide) f1, fun h => (f2 (down (by decide) h)).keep (Keep.alloc (Keep.refl _) _) Or.inr, up (by decide) f3, up (by decide) f4, up (by decide) f5, up (by decide) f6, fun h => (f7 (down (by decide) h)).keep (Keep.alloc (Keep.refl _) _) Or.inr, fun h => ⟨Or.inr (f8 (down (by decide) h)).1, (f8 (down (by decide) h)).2.keep (Keep.alloc (Keep.refl _) _)⟩, fun h => ⟨Or.inr (f9 (down (by decide) h)).1, (f9 (down (by decide) h)).2⟩⟩
          · -- 1: val
            rintro bb aa wx hn hd ⟨v7, v18, v19, v20, v21, v22, v23, v24, v25, v26, rfl, G, f0, f1, f2, f3, f4, f5, f6, f7, f8, f9⟩ K hK
            have HK := Lib.hid hK
            clear hK
            go_simp
            exact HK.out _ _ ⟨_, _, _, _, _, _, _, _, _, _, rfl, G, fun h => (f0 (down (by decide) h)).keep (Keep.refl _) Or.inr, fun _ => rfl, fun h => (f2 (down (by decide) h)).keep (Keep.refl _) Or.inr, up (by decide) f3, up (by decide) f4, up (by decide) f5, up (by decide) f6, fun h => (f7 (down (by decide) h)).keep (Keep.refl _) Or.inr, fun h => ⟨Or.inr (f8 (down (by decide) h)).1, (f8 (down (by decide) h)).2.keep (Keep.refl _)⟩, fun h => ⟨Or.inr (f9 (down (by decide) h)).1, (f9 (down (by decide) h)).2⟩⟩
          · -- 2: fact
            rintro bb aa wx hn hd ⟨v7, v18, v19, v20, v21, v22, v23, v24, v25, v26, rfl, G, f0, f1, f2, f3, f4, f5, f6, f7, f8, f9⟩ K hK
            have b1 : bb 1 := hd ⟨1, .data⟩ (by simp) (by rfl)
            obtain rfl := f1 b1
            have b0 : bb 0 := hd ⟨0, .data⟩ (by simp) (by rfl)
            obtain ⟨N, rfl, hN1, hN⟩ := (f0 b0).resolve_left hn
            have hro := HO.out.1.keep G
            have HK := Lib.hid hK
            clear hK
            rw [if_pos (by simp [Region.wanted])]
            refine wp_append_row (.tmp 18) (.tmp 19) 32 35 i0 (.agg #[.int .i64 0, .int .i64 0]) rfl Try.underlying32 hi hz0 hz1 hz2 rfl wr.heap.size N rfl hN hN1 G.size _ out rfl hro (by omega) ?_
            intro g cap w1 hown hgrow
            rw [hlen] at hown ⊢
            exact HK.out _ _ ⟨_, _, _, _, _, _, _, _, _, _, rfl, (Keep.byRow G hgrow (fun j hj => by cases hj; exact hN1)), fun _ => Or.inl (Or.inl rfl), fun _ => rfl, fun _ => Or.inr ⟨_, _, rfl, hown⟩, up (by decide) f3, up (by decide) f4, up (by decide) f5, up (by decide) f6, fun h => (f7 (down (by decide) h)).app hN hgrow Or.inr, fun h => absurd (f8 (down (by decide) h)).1 hn, fun h => ⟨Or.inr (f9 (down (by decide) h)).1, (f9 (down (by decide) h)).2⟩⟩
          · -- 3: val
            rintro bb aa wx hn hd ⟨v7, v18, v19, v20, v21, v22, v23, v24, v25, v26, rfl, G, f0, f1, f2, f3, f4, f5, f6, f7, f8, f9⟩ K hK
            have HK := Lib.hid hK
            clear hK
            go_simp
            exact HK.out _ _ ⟨_, _, _, _, _, _, _, _, _, _, rfl, G, fun h => (f0 (down (by decide) h)).keep (Keep.refl _) Or.inr, up (by decide) f1, fun h => (f2 (down (by decide) h)).keep (Keep.refl _) Or.inr, fun _ => rfl, up (by decide) f4, up (by decide) f5, up (by decide) f6, fun h => (f7 (down (by decide) h)).keep (Keep.refl _) Or.inr, fun h => ⟨Or.inr (f8 (down (by decide) h)).1, (f8 (down (by decide) h)).2.keep (Keep.refl _)⟩, fun h => ⟨Or.inr (f9 (down (by decide) h)).1, (f9 (down (by decide) h)).2⟩⟩
          · -- 4: val
            rintro bb aa wx hn hd ⟨v7, v18, v19, v20, v21, v22, v23, v24, v25, v26, rfl, G, f0, f1, f2, f3, f4, f5, f6, f7, f8, f9⟩ K hK
            have HK := Lib.hid hK
            clear hK
            go_simp
            exact HK.out _ _ ⟨_, _, _, _, _, _, _, _, _, _, rfl, G, fun h => (f0 (down (by decide) h)).keep (Keep.refl _) Or.inr, up (by decide) f1, fun h => (f2 (down (by decide) h)).keep (Keep.refl _) Or.inr, up (by decide) f3, fun _ => rfl, up (by decide) f5, up (by decide) f6, fun h => (f7 (down (by decide) h)).keep (Keep.refl _) Or.inr, fun h => ⟨Or.inr (f8 (down (by decide) h)).1, (f8 (down (by decide) h)).2.keep (Keep.refl _)⟩, fun h => ⟨Or.inr (f9 (down (by decide) h)).1, (f9 (down (by decide) h)).2⟩⟩
          · -- 5: val
            rintro bb aa wx hn hd ⟨v7, v18, v19, v20, v21, v22, v23, v24, v25, v26, rfl, G, f0, f1, f2, f3, f4, f5, f6, f7, f8, f9⟩ K hK
            have b3 : bb 3 := hd ⟨3, .data⟩ (by simp) (by rfl)
            obtain rfl := f3 b3
            have b4 : bb 4 := hd ⟨4, .data⟩ (by simp) (by rfl)
            obtain rfl := f4 b4
            have HK := Lib.hid hK
            clear hK
            go_simp
            exact HK.out _ _ ⟨_, _, _, _, _, _, _, _, _, _, rfl, G, fun h => (f0 (down (by decide) h)).keep (Keep.refl _) Or.inr, up (by decide) f1, fun h => (f2 (down (by decide) h)).keep (Keep.refl _) Or.inr, fun _ => rfl, fun _ => rfl, fun _ => rfl, up (by decide) f6, fun h => (f7 (down (by decide) h)).keep (Keep.refl _) Or.inr, fun h => ⟨Or.inr (f8 (down (by decide) h)).1, (f8 (down (by decide) h)).2.keep (Keep.refl _)⟩, fun h => ⟨Or.inr (f9 (down (by decide) h)).1, (f9 (down (by decide) h)).2⟩⟩
          · -- 6: val
            rintro bb aa wx hn hd ⟨v7, v18, v19, v20, v21, v22, v23, v24, v25, v26, rfl, G, f0, f1, f2, f3, f4, f5, f6, f7, f8, f9⟩ K hK
            have b5 : bb 5 := hd ⟨5, .data⟩ (by simp) (by rfl)
            obtain rfl := f5 b5
            have k0 := G.some c0
            have k1 := G.some c1
            have HK := Lib.hid hK
            clear hK
            go_simp
            exact HK.out _ _ ⟨_, _, _, _, _, _, _, _, _, _, rfl, G, fun h => (f0 (down (by decide) h)).keep (Keep.refl _) Or.inr, up (by decide) f1, fun h => (f2 (down (by decide) h)).keep (Keep.refl _) Or.inr, up (by decide) f3, up (by decide) f4, fun _ => rfl, fun _ => rfl, fun h => (f7 (down (by decide) h)).keep (Keep.refl _) Or.inr, fun h => ⟨Or.inr (f8 (down (by decide) h)).1, (f8 (down (by decide) h)).2.keep (Keep.refl _)⟩, fun h => ⟨Or.inr (f9 (down (by decide) h)).1, (f9 (down (by decide) h)).2⟩⟩
          · -- 7: fact
            rintro bb aa wx hn hd ⟨v7, v18, v19, v20, v21, v22, v23, v24, v25, v26, rfl, G, f0, f1, f2, f3, f4, f5, f6, f7, f8, f9⟩ K hK
            have b6 : bb 6 := hd ⟨6, .data⟩ (by simp) (by rfl)
            obtain rfl := f6 b6
            have HK := Lib.hid hK
            clear hK
            go_simp
            exact HK.out _ _ ⟨_, _, _, _, _, _, _, _, _, _, rfl, (G.trans (Keep.alloc (Keep.refl _) _)), fun h => (f0 (down (by decide) h)).keep (Keep.alloc (Keep.refl _) _) Or.inr, up (by decide) f1, fun h => (f2 (down (by decide) h)).keep (Keep.alloc (Keep.refl _) _) Or.inr, up (by decide) f3, up (by decide) f4, up (by decide) f5, fun _ => rfl, fun _ => Or.inr ⟨_, rfl, by simp [go_sem], by simp [go_sem]⟩, fun h => ⟨Or.inr (f8 (down (by decide) h)).1, (f8 (down (by decide) h)).2.keep (Keep.alloc (Keep.refl _) _)⟩, fun h => ⟨Or.inr (f9 (down (by decide) h)).1, (f9 (down (by decide) h)).2⟩⟩
          · -- 8: fact
            rintro bb aa wx hn hd ⟨v7, v18, v19, v20, v21, v22, v23, v24, v25, v26, rfl, G, f0, f1, f2, f3, f4, f5, f6, f7, f8, f9⟩ K hK
            have b2 : bb 2 := hd ⟨2, .data⟩ (by simp) (by rfl)
            have b7 : bb 7 := hd ⟨7, .data⟩ (by simp) (by rfl)
            obtain ⟨g, c, rfl, hown0⟩ := (f2 b2).resolve_left hn
            obtain ⟨Y1, rfl, hy0, hy1⟩ := (f7 b7).resolve_left hn
            have HK := Lib.hid hK
            clear hK
            refine step_append_lies _ rfl (.tmp 20) (.tmp 25) 32 rfl wr.heap.size 35 i0 (.agg #[.int .i64 0, .int .i64 0]) 2 16 Try.underlying32 hi hz0 hz1 hz2 rfl (by decide) _ _ _ rfl hown0 ⟨Y1, 0, none⟩ 1 1 [.int .i64 x, .int .i64 y] rfl rfl (cells_two hy0 hy1) (by intro u hu; simp at hu; rcases hu with rfl | rfl <;> rfl) (by omega) (by unfold maxLen; omega) (by omega) G.size _ rfl ?_
            intro g2 cap2 w1 hown hgrow _ _
            rw [show cellsL out ++ [.int .i64 x, .int .i64 y] = cellsL (out ++ [(x, y)]) by rw [cellsL_append]; rfl] at hown
            exact HK.out _ _ ⟨_, _, _, _, _, _, _, _, _, _, rfl, (Keep.byRow G hgrow (fun j hj => (hown0.lt j hj).1)), fun _ => Or.inl (Or.inr b2), up (by decide) f1, fun _ => Or.inl (Or.inl rfl), up (by decide) f3, up (by decide) f4, up (by decide) f5, up (by decide) f6, fun _ => Or.inl (Or.inl rfl), fun _ => ⟨Or.inr b2, _, _, rfl, hown⟩, fun h => absurd (f9 (down (by decide) h)).1 hn⟩
          · -- 9: val
            rintro bb aa wx hn hd ⟨v7, v18, v19, v20, v21, v22, v23, v24, v25, v26, rfl, G, f0, f1, f2, f3, f4, f5, f6, f7, f8, f9⟩ K hK
            have b8 : bb 8 := hd ⟨8, .data⟩ (by simp) (by rfl)
            have HK := Lib.hid hK
            clear hK
            go_simp
            exact HK.out _ _ ⟨_, _, _, _, _, _, _, _, _, _, rfl, G, fun h => (f0 (down (by decide) h)).keep (Keep.refl _) Or.inr, up (by decide) f1, fun h => (f2 (down (by decide) h)).keep (Keep.refl _) Or.inr, up (by decide) f3, up (by decide) f4, up (by decide) f5, up (by decide) f6, fun h => (f7 (down (by decide) h)).keep (Keep.refl _) Or.inr, fun h => ⟨Or.inr (f8 (down (by decide) h)).1, (f8 (down (by decide) h)).2.keep (Keep.refl _)⟩, fun _ => ⟨Or.inr b8, rfl⟩⟩
      · obtain rfl : k = l.length := by omega
        have HR2 : Hid (RowAt wr u3 (confL X Y l)) := Lib.hid (by have := HR.out.1; rwa [List.take_length] at this)
        go_wp2
        go_ret
        exact ⟨_, rfl, HR2.out, KW.out.trans HR.out.2.2, HR.out.2.1⟩
  case startw => exact ⟨_, _, _, _, _, _, rfl, Keep.drew (Keep.refl _), fun h => h.elim, fun h => h.elim, fun h => h.elim, fun h => h.elim, fun h => h.elim, fun h => h.elim, fun h => h.elim, fun h => h.elim⟩
  case stepsw =>
    refine StepsFrom.cons (k := 0) ?_ (StepsFrom.cons (k := 1) ?_ (StepsFrom.cons (k := 2) ?_ (StepsFrom.cons (k := 3) ?_ (StepsFrom.cons (k := 4) ?_ (StepsFrom.cons (k := 5) ?_ (StepsFrom.cons (k := 6) ?_ (StepsFrom.nil)))))))
    · -- 0: val
      rintro bb aa ww hn hd ⟨v4, v5, v8, v9, v10, v11, rfl, G, f0, f1, f2, f3, f4, f5, f6, o4_3⟩ K hK
      have k0 := G.some d0
      have k1 := G.some d1
      have k2 := G.some d2
      have k3 := G.some d3
      have HK := Lib.hid hK
      clear hK
      go_simp
      exact HK.out _ _ ⟨_, _, _, _, _, _, rfl, G, fun _ => rfl, up (by decide) f1, up (by decide) f2, fun h => (f3 (down (by decide) h)).keep (Keep.refl _), fun h => (f4 (down (by decide) h)).step (Keep.refl _) (down (by decide)), fun h => Or.inr (f5 (down (by decide) h)), fun h => ⟨Or.inr (f6 (down (by decide) h)).1, (f6 (down (by decide) h)).2⟩, fun h h' => o4_3 (down (by decide) h) (down (by decide) h')⟩
    · -- 1: val
      rintro bb aa ww hn hd ⟨v4, v5, v8, v9, v10, v11, rfl, G, f0, f1, f2, f3, f4, f5, f6, o4_3⟩ K hK
      have b0 : bb 0 := hd ⟨0, .data⟩ (by simp) (by rfl)
      obtain rfl := f0 b0
      have HK := Lib.hid hK
      clear hK
      go_wp2_with (go_at_call 5; ((with_reducible refine (draftBucket_is _ B R gs ss _ (Lib.hid (HD.out.keep G)) X Y HX HY).mono ?_); rintro _ w1 ⟨rfl, hk⟩))
      exact HK.out _ _ ⟨_, _, _, _, _, _, rfl, (G.trans hk), fun _ => rfl, fun _ => rfl, up (by decide) f2, fun h => (f3 (down (by decide) h)).keep hk, fun h => (f4 (down (by decide) h)).step hk (down (by decide)), fun h => Or.inr (f5 (down (by decide) h)), fun h => ⟨Or.inr (f6 (down (by decide) h)).1, (f6 (down (by decide) h)).2⟩, fun h h' => o4_3 (down (by decide) h) (down (by decide) h')⟩
    · -- 2: val
      rintro bb aa ww hn hd ⟨v4, v5, v8, v9, v10, v11, rfl, G, f0, f1, f2, f3, f4, f5, f6, o4_3⟩ K hK
      have k0 := G.some d0
      have k1 := G.some d1
      have k2 := G.some d2
      have k3 := G.some d3
      have HK := Lib.hid hK
      clear hK
      go_simp
      exact HK.out _ _ ⟨_, _, _, _, _, _, rfl, G, up (by decide) f0, up (by decide) f1, fun _ => rfl, fun h => (f3 (down (by decide) h)).keep (Keep.refl _), fun h => (f4 (down (by decide) h)).step (Keep.refl _) (down (by decide)), fun h => Or.inr (f5 (down (by decide) h)), fun h => ⟨Or.inr (f6 (down (by decide) h)).1, (f6 (down (by decide) h)).2⟩, fun h h' => o4_3 (down (by decide) h) (down (by decide) h')⟩
    · -- 3: row
      rintro bb aa ww hn hd ⟨v4, v5, v8, v9, v10, v11, rfl, G, f0, f1, f2, f3, f4, f5, f6, o4_3⟩ K hK
      have b2 : bb 2 := hd ⟨2, .data⟩ (by simp) (by rfl)
      obtain rfl := f2 b2
      have HK := Lib.hid hK
      clear hK
      go_wp2_with (go_at_call 13; ((with_reducible refine (draftTrace_is _ B R gs ss _ (Lib.hid (HD.out.keep G)) l Hl).mono ?_); rintro _ w1 ⟨v1, rfl, hr, hk, hf⟩))
      exact HK.out _ _ ⟨_, _, _, _, _, _, rfl, (G.trans hk), up (by decide) f0, up (by decide) f1, fun _ => rfl, fun _ => hr, fun h => (f4 (down (by decide) h)).step hk (down (by decide)), fun h => Or.inr (f5 (down (by decide) h)), fun h => absurd (f6 (down (by decide) h)).1 hn, fun h _ => (f4 (down (by decide) h)).offFresh hf⟩
    · -- 4: alloc
      rintro bb aa ww hn hd ⟨v4, v5, v8, v9, v10, v11, rfl, G, f0, f1, f2, f3, f4, f5, f6, o4_3⟩ K hK
      have HK := Lib.hid hK
      clear hK
      go_simp
      exact HK.out _ _ ⟨_, _, _, _, _, _, rfl, (G.trans (Keep.alloc (Keep.refl _) _)), up (by decide) f0, up (by decide) f1, up (by decide) f2, fun h => (f3 (down (by decide) h)).keep (Keep.alloc (Keep.refl _) _), fun _ => VarAt.new G (fun h => hn (f5 (h.resolve_left (by decide)))), fun _ => Or.inl rfl, fun h => ⟨Or.inr (f6 (down (by decide) h)).1, (f6 (down (by decide) h)).2⟩, fun _ h => (f3 (down (by decide) h)).offNew⟩
    · -- 5: store
      rintro bb aa ww hn hd ⟨v4, v5, v8, v9, v10, v11, rfl, G, f0, f1, f2, f3, f4, f5, f6, o4_3⟩ K hK
      have b4 : bb 4 := hd ⟨4, .data⟩ (by simp) (by rfl)
      have b1 : bb 1 := hd ⟨1, .data⟩ (by simp) (by rfl)
      obtain rfl := f1 b1
      obtain ⟨X, c0, c1, rfl, hX, ⟨hc0, hc1⟩, ⟨hf0, hf1⟩, -⟩ := f4 b4
      have HK := Lib.hid hK
      clear hK
      go_simp
      exact HK.out _ _ ⟨_, _, _, _, _, _, rfl, ((G.setCell hX _).setCell hX _), up (by decide) f0, fun _ => rfl, up (by decide) f2, fun h => (f3 (down (by decide) h)).store (o4_3 b4 (down (by decide) h)), fun _ => VarAt.here hX hc0 hc1 hf0 hf1, fun _ => Or.inr b4, fun h => ⟨Or.inr (f6 (down (by decide) h)).1, (f6 (down (by decide) h)).2⟩, fun h h' => o4_3 (down (by decide) h) (down (by decide) h')⟩
    · -- 6: val
      rintro bb aa ww hn hd ⟨v4, v5, v8, v9, v10, v11, rfl, G, f0, f1, f2, f3, f4, f5, f6, o4_3⟩ K hK
      have b3 : bb 3 := hd ⟨3, .data⟩ (by simp) (by rfl)
      have HK := Lib.hid hK
      clear hK
      go_simp
      exact HK.out _ _ ⟨_, _, _, _, _, _, rfl, G, up (by decide) f0, up (by decide) f1, up (by decide) f2, fun h => (f3 (down (by decide) h)).keep (Keep.refl _), fun h => (f4 (down (by decide) h)).step (Keep.refl _) (down (by decide)), fun h => Or.inr (f5 (down (by decide) h)), fun _ => ⟨Or.inr b3, rfl⟩, fun h h' => o4_3 (down (by decide) h) (down (by decide) h')⟩

theorem conf_any (D : Value) (B R : Int) (gs ss : List Int) (w : World) (h : DraftAt w D B R gs ss) (X Y : Int) (HX : Hid (bOf B = X)) (HY : Hid (rOf R = Y)) (l : List (Int × Int)) (Hl : Hid (traceD gs ss (min ss.length 30) = l)) :
    Calls Try.prog 6 #[D] w (Makes (confL X Y l) w) := by
  have h' := h
  obtain ⟨⟨g, s, rfl, h1, h2⟩, h3, h4⟩ := h
  obtain ⟨ga, gl, gc, rfl, -⟩ := h1.form
  obtain ⟨sa, sl, sc, rfl, -⟩ := h2.form
  refine conf_slices B R ga sa gl gc sl sc gs ss w (Lib.hid h') X Y HX HY l Hl (Lib.hid ?_) (Lib.hid ?_) ?_
  · rw [← Hl.out]; exact okT_traceD h1.1 h2.1 (by omega)
  · rw [← HX.out, ← HY.out]; exact okBk_of B R
  · rw [← Hl.out, traceD_len]; omega
theorem conf_is (D : Value) (B R : Int) (gs ss : List Int) (w : World) (h : Hid (DraftAt w D B R gs ss)) (X Y : Int) (HX : Hid (bOf B = X)) (HY : Hid (rOf R = Y)) (l : List (Int × Int)) (Hl : Hid (traceD gs ss (min ss.length 30) = l)) :
    Calls Try.prog 6 #[D] w (Makes (confL X Y l) w) := conf_any D B R gs ss w h.out X Y HX HY l Hl

end Go.Proofs.Ytaknbjjcgcmdlaa
