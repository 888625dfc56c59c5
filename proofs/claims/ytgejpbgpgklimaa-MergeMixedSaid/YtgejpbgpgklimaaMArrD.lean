/- Pieces of four frames, joined in any order; an array of four drafts in a variable, and as an argument. Nothing is said of the program's code here. (One text: a claim has at most 60 files.) -/
import Derived.Test.YtgejpbgpgklimaaMPcs
import Derived.Test.YtgejpbgpgklimaaMBackM
import Derived.Test.YtgejpbgpgklimaaMMem
import Derived.Test.YtgejpbgpgklimaaMArg
import Derived.OpenShut
namespace Go.Proofs.Ytgejpbgpgklimaa
open Go Go.RowKit

theorem stepM_no {m : Mg} {p : Pc} (h : p.st = false) (hf : fitsB m p = false) : stepM m p = (zeroM, ⟨#[]⟩) := by
  unfold stepM
  rw [h, hf]
  rfl
theorem stK_form (s : ByteArray) (n : Int) (cuts : List Int) (k : Nat) (_hk : 1 ≤ k) : stK s n cuts k = zeroM ∨ (k ≤ cuts.length ∧ stK s n cuts k = ⟨true, n, (((k - 1) % 4 : Nat) : Int), s.extract 0 (fr cuts k)⟩) := by
  unfold stK
  split
  · exact .inl rfl
  · exact .inr ⟨by omega, rfl⟩
/-- A state that pieces of the frames F j with the offsets C j can leave. -/
def Reached (F : Nat → ByteArray) (C : Nat → List Int) (m : Mg) : Prop := m = zeroM ∨ ∃ j k, j < 4 ∧ 1 ≤ k ∧ k ≤ (C j).length ∧ m = stK (F j) (j : Int) (C j) k
theorem mix_step {F : Nat → ByteArray} {C : Nat → List Int} (hW : ∀ j, j < 4 → Whole (F j) (j : Int) (C j)) (hC : ∀ j, j < 4 → (C j).length ≤ 4) {m : Mg} (hm : Reached F C m) {j k : Nat} (hj : j < 4) (hk : k ≤ (C j).length) :
    Reached F C (joinM m (pcAt (F j) j (C j) k)) ∧ (joinS m (pcAt (F j) j (C j) k) = ⟨#[]⟩ ∨ joinS m (pcAt (F j) j (C j) k) = F j) ∧ joinE m (pcAt (F j) j (C j) k) = 0 ∧ (joinM m (pcAt (F j) j (C j) k)).okB = true ∧ ((joinM m (pcAt (F j) j (C j) k)).on = true → (joinM m (pcAt (F j) j (C j) k)).num = (j : Int)) := by
  have hmok : m.okB = true := by
    rcases hm with rfl | ⟨j', k', h1, h2, h3, rfl⟩
    · exact zero_ok
    · exact st_ok (hW j' h1) k'
  have hpok := pc_ok (hW j hj) hk
  have hE : joinE m (pcAt (F j) j (C j) k) = 0 := by
    unfold joinE errP
    rw [hmok, hpok]
    rfl
  have hMs : joinM m (pcAt (F j) j (C j) k) = (stepM m (pcAt (F j) j (C j) k)).1 := by unfold joinM; rw [hmok, hpok]; rfl
  have hSs : joinS m (pcAt (F j) j (C j) k) = (stepM m (pcAt (F j) j (C j) k)).2 := by unfold joinS; rw [hmok, hpok]; rfl
  have hok := joinM_ok m (pcAt (F j) j (C j) k)
  refine ⟨?_, ?_, hE, hok, ?_⟩
  all_goals
    have key : stepM m (pcAt (F j) j (C j) k) = (zeroM, ⟨#[]⟩) ∨ stepM m (pcAt (F j) j (C j) k) = (stK (F j) j (C j) (k + 1), if k = (C j).length then F j else ⟨#[]⟩) := by
      by_cases h0 : k = 0
      · exact .inr (stepM_any (hW j hj) hk m (.inl h0))
      · have hst : (pcAt (F j) j (C j) k).st = false := by simp [pcAt, h0]
        cases hf : fitsB m (pcAt (F j) j (C j) k) with
        | false => exact .inl (stepM_no hst hf)
        | true =>
          refine .inr (stepM_any (hW j hj) hk m (.inr ?_))
          unfold fitsB at hf
          simp only [Bool.and_eq_true, decide_eq_true_eq] at hf
          obtain ⟨⟨h1, h2⟩, h3⟩ := hf
          rcases hm with rfl | ⟨j', k', g1, g2, g3, rfl⟩
          · exact absurd h1 (by decide)
          · rcases stK_form (F j') j' (C j') k' g2 with h | ⟨-, h⟩
            · rw [h] at h1
              exact absurd h1 (by decide)
            · rw [h] at h2 h3
              have e1 : (j' : Int) = (j : Int) := h2
              have e2 : (((k' - 1) % 4 : Nat) : Int) = cntAt k := h3
              obtain rfl : j' = j := by omega
              have := hC j' hj
              unfold cntAt at e2
              rw [if_neg h0] at e2
              obtain rfl : k' = k := by omega
              rfl
  · rw [hMs]
    rcases key with h | h
    · rw [h]; exact .inl rfl
    · rw [h]
      rcases stK_form (F j) j (C j) (k + 1) (by omega) with g | ⟨g, -⟩
      · exact .inl g
      · exact .inr ⟨j, k + 1, hj, by omega, g, rfl⟩
  · rw [hSs]
    rcases key with h | h
    · rw [h]; exact .inl rfl
    · rw [h]
      dsimp only
      split
      · exact .inr rfl
      · exact .inl rfl
  · rw [hMs]
    rcases key with h | h
    · rw [h]; intro c; cases c
    · rw [h]
      rcases stK_form (F j) j (C j) (k + 1) (by omega) with g | ⟨-, g⟩
      · rw [g]; intro c; cases c
      · rw [g]; intro _; rfl
/-- The pieces of the first k frames. -/
def allK (F : Nat → ByteArray) (C : Nat → List Int) (k : Nat) : List Pc := (List.range k).flatMap fun j => pcsL (F j) j (C j)
theorem allK_succ (F C k) : allK F C (k + 1) = allK F C k ++ pcsL (F k) k (C k) := by simp [allK, List.range_succ]
theorem allK_mem {F : Nat → ByteArray} {C : Nat → List Int} {k r : Nat} {p : Pc} (h : (allK F C k)[r]? = some p) : ∃ j i, j < k ∧ i ≤ (C j).length ∧ p = pcAt (F j) j (C j) i := by
  have := List.mem_of_getElem? h
  obtain ⟨j, hj, hp⟩ := List.mem_flatMap.1 this
  unfold pcsL pcsK at hp
  obtain ⟨i, hi, rfl⟩ := List.mem_map.1 hp
  exact ⟨j, i, List.mem_range.1 hj, by have := List.mem_range.1 hi; omega, rfl⟩
theorem allK_len {F : Nat → ByteArray} {C : Nat → List Int} (hC : ∀ j, j < 4 → (C j).length ≤ 4) : ∀ k, k ≤ 4 → k ≤ (allK F C k).length ∧ (allK F C k).length ≤ 5 * k
  | 0, _ => by simp [allK]
  | k + 1, h => by
    have h1 := allK_len (F := F) hC k (by omega)
    have h2 := hC k (by omega)
    rw [allK_succ, List.length_append, pcsL_length]
    omega

structure MDr where
  x : ByteArray
  L : Int
  g : Int
  V : Value
  gs : List Int
def MDr.Ok (W : World) (D : MDr) : Prop := (0 ≤ D.L ∧ D.L < 65536) ∧ (0 ≤ D.g ∧ D.g < 256) ∧ D.x.size ≤ maxLen ∧ BytesL D.gs ∧ BytesIn W D.V D.gs
def ArrD (w : World) (A : Nat) (D : Nat → MDr) (G : Nat → Int) : Prop := ∃ cs : Array Value, w.heap[A]? = some (.cells cs 59 (0, 0)) ∧ cs.size = 16 ∧
  ∀ j, j < 4 → cs[j * 4]? = some (.string (D j).x) ∧ cs[j * 4 + 1]? = some (.int .u16 (D j).L) ∧ cs[j * 4 + 2]? = some (.int .u8 (G j)) ∧ cs[j * 4 + 3]? = some (D j).V
theorem ArrD.row {w w' : World} {A : Nat} {D : Nat → MDr} {G : Nat → Int} (h : ArrD w A D G) (e : w'.heap[A]? = w.heap[A]?) : ArrD w' A D G := by
  obtain ⟨cs, h1, h2⟩ := h
  exact ⟨cs, e.trans h1, h2⟩
theorem ArrD.lt {w : World} {A : Nat} {D : Nat → MDr} {G : Nat → Int} (h : ArrD w A D G) : A < w.heap.size := by
  obtain ⟨cs, h1, h2⟩ := h
  exact heap_lt h1
theorem ArrD.keep {w w' : World} {A : Nat} {D : Nat → MDr} {G : Nat → Int} (h : ArrD w A D G) (k : Keep w w') : ArrD w' A D G := h.row (k.block A h.lt)
theorem ArrD.cells {w : World} {A : Nat} {D : Nat → MDr} {G : Nat → Int} (h : ArrD w A D G) {j : Nat} (hj : j < 4) : w.cell? ⟨A, j * 4, none⟩ = some (.string (D j).x) ∧ w.cell? ⟨A, j * 4 + 1, none⟩ = some (.int .u16 (D j).L) ∧ w.cell? ⟨A, j * 4 + 2, none⟩ = some (.int .u8 (G j)) ∧ w.cell? ⟨A, j * 4 + 3, none⟩ = some (D j).V := by
  obtain ⟨cs, h1, h2, h3⟩ := h
  obtain ⟨c0, c1, c2, c3⟩ := h3 j hj
  exact ⟨(cell_of_row _ _ _ _ _ _ h1).trans c0, (cell_of_row _ _ _ _ _ _ h1).trans c1, (cell_of_row _ _ _ _ _ _ h1).trans c2, (cell_of_row _ _ _ _ _ _ h1).trans c3⟩
theorem ArrD.free {w : World} {A : Nat} {D : Nat → MDr} {G : Nat → Int} (h : ArrD w A D G) (o : Nat) : w.frozen? ⟨A, o, none⟩ = false := by
  obtain ⟨cs, h1, h2⟩ := h
  exact frozen_of_row w A o _ _ h1
theorem ArrD.set {w : World} {A : Nat} {D : Nat → MDr} {G G' : Nat → Int} (h : ArrD w A D G) {i : Nat} (hi : i < 4) (z : Int) (hG : ∀ j, j < 4 → G' j = if j = i then z else G j) : ArrD (w.setCell ⟨A, i * 4 + 2, none⟩ (.int .u8 z)) A D G' := by
  obtain ⟨cs, h1, h2, h3⟩ := h
  refine ⟨_, heap_setCell_same _ _ _ _ _ _ h1, by simp [h2], fun j hj => ?_⟩
  obtain ⟨c0, c1, c2, c3⟩ := h3 j hj
  rw [hG j hj]
  by_cases e : j = i
  · subst e
    rw [if_pos rfl]
    refine ⟨?_, ?_, ?_, ?_⟩ <;> simp [Array.getElem?_setIfInBounds, c0, c1, c3, h2] <;> omega
  · rw [if_neg e]
    refine ⟨?_, ?_, ?_, ?_⟩
    · rw [Array.getElem?_setIfInBounds_ne (by omega)]; exact c0
    · rw [Array.getElem?_setIfInBounds_ne (by omega)]; exact c1
    · rw [Array.getElem?_setIfInBounds_ne (by omega)]; exact c2
    · rw [Array.getElem?_setIfInBounds_ne (by omega)]; exact c3
theorem arrD_new (w : World) (D : Nat → MDr) : ArrD (w.alloc (.cells #[.string (D 0).x, .int .u16 (D 0).L, .int .u8 (D 0).g, (D 0).V, .string (D 1).x, .int .u16 (D 1).L, .int .u8 (D 1).g, (D 1).V, .string (D 2).x, .int .u16 (D 2).L, .int .u8 (D 2).g, (D 2).V, .string (D 3).x, .int .u16 (D 3).L, .int .u8 (D 3).g, (D 3).V] 59)) w.heap.size D (fun j => if j < 0 then (j : Int) else (D j).g) := by
  refine ⟨_, heap_alloc_new w _, rfl, fun j hj => ?_⟩
  obtain rfl | rfl | rfl | rfl : j = 0 ∨ j = 1 ∨ j = 2 ∨ j = 3 := by omega
  all_goals exact ⟨rfl, rfl, rfl, rfl⟩
theorem ownP_ne {w : World} {base A : Nat} {v : Value} {l : List Pc} (h : OwnP w base v l) (hA : A < base) : v.ownBlock ≠ some A := fun e => by
  have := (World.ownsRow.lt h A e).1
  omega
section
open Go.Joins Go.ChangeShapes Go.WideShapes Go.ChangeAt Go.Deep
variable {H : Type} {enc : TypeId × Value → H} {W : World} {base : Nat}

set_option maxRecDepth 100000 in
theorem draft_of {n : Nat} {v0 v1 v2 v3 : Value} {y : DataW H × List MemPlace} (h : DataW.trod enc Try.prog W 0 (fun _ => true) true n 25 [v0, v1, v2, v3] = some y)
    (c3 : Cell.okWide Try.prog W .any base 23 v3) : ∃ x L g gs, DrI W (.agg #[v0, v1, v2, v3]) x L g v3 gs := by
  obtain ⟨xs, k, hk, hxy, _, hxl, hf⟩ := DataW.trod_struct Try.underlying25 h
  match xs, hxl with
  | [y0, y1, y2, y3], _ =>
    have g0 := hf 0 _ rfl
    have g1 := hf 1 _ rfl
    have g2 := hf 2 _ rfl
    have g3 := hf 3 _ rfl
    have k0 : Try.prog.cellsOf 9 = 1 := by kernel_rfl
    have k1 : Try.prog.cellsOf 22 = 1 := by kernel_rfl
    have k2 : Try.prog.cellsOf 5 = 1 := by kernel_rfl
    have k3 : Try.prog.cellsOf 23 = 1 := by kernel_rfl
    simp [k0, k1, k2, k3] at g0 g1 g2 g3
    exact mdr_cells g0 g1 g2 g3 c3
set_option maxRecDepth 100000 in
theorem mdr4_in {v : Value} {d : DataW H} {p : List MemPlace} (hv : Value.okWide Try.prog W .any base 59 v) (h : DataW.Trod enc Try.prog W 0 (fun _ => true) true 59 v d p) :
    ∃ a b c e : Value, ∃ xa La ga Va sa xb Lb gb Vb sb xc Lc gc Vc sc xe Le ge Ve se, v = .agg #[.string xa, .int .u16 La, .int .u8 ga, Va, .string xb, .int .u16 Lb, .int .u8 gb, Vb, .string xc, .int .u16 Lc, .int .u8 gc, Vc, .string xe, .int .u16 Le, .int .u8 ge, Ve] ∧ DrI W a xa La ga Va sa ∧ DrI W b xb Lb gb Vb sb ∧ DrI W c xc Lc gc Vc sc ∧ DrI W e xe Le ge Ve se := by
  simp only [Value.okWide, Try.underlying59] at hv
  obtain ⟨cs, rfl, hsz, ts, hts, -, hcell⟩ := hv
  have hts' : Try.prog.cellTypes Try.prog.depth 59 = some [9, 22, 5, 23, 9, 22, 5, 23, 9, 22, 5, 23, 9, 22, 5, 23] := by kernel_rfl
  rw [hts'] at hts
  cases hts
  have hct : Try.prog.cellsOf 59 = 16 := by kernel_rfl
  obtain ⟨cs⟩ := cs
  match cs, hsz.trans hct with
  | [a0, a1, a2, a3, b0, b1, b2, b3, c0, c1, c2, c3, e0, e1, e2, e3], _ =>
    obtain ⟨t, ht, ca⟩ := hcell 3 a3 rfl
    simp at ht
    subst ht
    obtain ⟨t, ht, cb⟩ := hcell 7 b3 rfl
    simp at ht
    subst ht
    obtain ⟨t, ht, cc⟩ := hcell 11 c3 rfl
    simp at ht
    subst ht
    obtain ⟨t, ht, ce⟩ := hcell 15 e3 rfl
    simp at ht
    subst ht
    obtain ⟨fuel, hf⟩ := h
    obtain ⟨xs, m, rfl, hx, hl, hxl, hi⟩ := DataW.trod_array Try.underlying59 hf
    have e4 : Try.prog.cellsOf 25 = 4 := by kernel_rfl
    match xs, hxl with
    | [y0, y1, y2, y3], _ =>
      have i0 := hi 0 (by omega)
      have i1 := hi 1 (by omega)
      have i2 := hi 2 (by omega)
      have i3 := hi 3 (by omega)
      simp [e4, Value.cells] at i0 i1 i2 i3
      obtain ⟨xa, La, ga, sa, ha⟩ := draft_of i0 ca
      obtain ⟨xb, Lb, gb, sb, hb⟩ := draft_of i1 cb
      obtain ⟨xc, Lc, gc, sc, hc⟩ := draft_of i2 cc
      obtain ⟨xe, Le, ge, se, he⟩ := draft_of i3 ce
      have va := ha.val
      have vb := hb.val
      have vc := hc.val
      have ve := he.val
      simp at va vb vc ve
      obtain ⟨rfl, rfl, rfl⟩ := va
      obtain ⟨rfl, rfl, rfl⟩ := vb
      obtain ⟨rfl, rfl, rfl⟩ := vc
      obtain ⟨rfl, rfl, rfl⟩ := ve
      exact ⟨_, _, _, _, _, _, _, _, _, _, _, _, _, _, _, _, _, _, _, _, _, _, _, _, rfl, ha, hb, hc, he⟩
end

def arr4 (a b c d : MDr) : Nat → MDr
  | 0 => a
  | 1 => b
  | 2 => c
  | _ => d
theorem drI_ok {W : World} {v : Value} {x : ByteArray} {L g : Int} {V : Value} {gs : List Int} (h : DrI W v x L g V gs) : MDr.Ok W ⟨x, L, g, V, gs⟩ := ⟨h.bL, h.bg, h.bx, h.bl, h.bi⟩
theorem arr4_ok {W : World} {a b c d : MDr} (ha : a.Ok W) (hb : b.Ok W) (hc : c.Ok W) (hd : d.Ok W) : ∀ j, j < 4 → (arr4 a b c d j).Ok W := by
  intro j hj
  obtain rfl | rfl | rfl | rfl : j = 0 ∨ j = 1 ∨ j = 2 ∨ j = 3 := by omega
  · exact ha
  · exact hb
  · exact hc
  · exact hd
end Go.Proofs.Ytgejpbgpgklimaa
