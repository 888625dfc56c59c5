/- What a draft's Offsets returns. -/
import Derived.Test.YtgejpbgpgklimaaMDraft
namespace Go.Proofs.Ytgejpbgpgklimaa
open Go Go.RowKit

/-- A row of integers of one's own. -/
def OwnI (w : World) (base : Nat) (v : Value) (zs : List Int) : Prop := w.ownsRow base 3 1 v zs.length (zs.map (Value.int .i64))
theorem OwnI.nil (w : World) (base : Nat) : OwnI w base (.slice none 0 0) [] := World.ownsRow_nil w base _ 1
theorem OwnI.keep {w w' : World} {base : Nat} {v : Value} {l : List Int} (h : OwnI w base v l) (k : Keep w w') : OwnI w' base v l := by
  refine ⟨h.1, ?_⟩
  rcases h.2 with h1 | ⟨g, cap, cur, h2, hb, hg, h3⟩
  · exact .inl h1
  · exact .inr ⟨g, cap, cur, h2, hb, keepRow k hg, h3⟩
theorem OwnI.base {w : World} {base base' : Nat} {v : Value} {l : List Int} (h : OwnI w base v l) (hb : base' ≤ base) : OwnI w base' v l := by
  refine ⟨h.1, ?_⟩
  rcases h.2 with h1 | ⟨g, cap, cur, h2, hg, h3⟩
  · exact .inl h1
  · exact .inr ⟨g, cap, cur, h2, Nat.le_trans hb hg, h3⟩
theorem OwnI.list {w : World} {base : Nat} {v : Value} {l : List Int} (h : OwnI w base v l) (hl : l.length ≤ 1000000) : ListAt w v l := by
  rcases h.2 with ⟨rfl, h0⟩ | ⟨g, cap, cur, rfl, hb, hg, hn, hm, hs, ht⟩
  · exact .inl ⟨rfl, List.length_eq_zero_iff.1 h0⟩
  · refine .inr ⟨g, 0, _, cap, rfl, rfl, by omega, fun j hj => ?_⟩
    rw [Nat.zero_add, cell_of_row w g j cur _ (0, 0) hg, ← Array.getElem?_toList]
    have e : (l.map (Value.int .i64))[j]? = some (.int .i64 (l.getD j 0)) := by simp [List.getD, hj]
    rw [← ht, List.getElem?_take, if_pos (by omega)] at e
    exact e
/-- A slice of octets that reads as the list gs. -/
def BytesIn (w : World) (V : Value) (gs : List Int) : Prop :=
  (V = .slice none 0 0 ∧ gs = []) ∨ ∃ b off n cap, V = .slice (some ⟨b, off, none⟩) n cap ∧ gs.length = n ∧ n ≤ 9223372036854775807 ∧ ∀ j, j < n → w.cell? ⟨b, off + j, none⟩ = some (.int .u8 (gs.getD j 0))
theorem BytesIn.keep {w w' : World} {v : Value} {zs : List Int} (h : BytesIn w v zs) (k : Keep w w') : BytesIn w' v zs := by
  rcases h with h | ⟨b, off, n, cap, h1, h2, h3, h4⟩
  · exact .inl h
  · exact .inr ⟨b, off, n, cap, h1, h2, h3, fun j hj => k.some (h4 j hj)⟩
theorem bytes_slice {w : World} {v : Value} {zs : List Int} (h : BytesIn w v zs) : ∃ a0 len cap, v = .slice a0 len cap := by
  rcases h with ⟨rfl, _⟩ | ⟨b, off, n, cap, rfl, _⟩
  · exact ⟨_, _, _, rfl⟩
  · exact ⟨_, _, _, rfl⟩
theorem one_at (w : World) (x : Value) (t : TypeId) (g : Nat) (hg : g = w.heap.size) : ∀ j u, [x][j]? = some u → (w.alloc (.cells #[x] t)).cell? ((⟨g, 0, none⟩ : Addr).add j) = some u := by
  subst hg
  exact cell_one_new w x t
theorem infoInt : (Try.prog.info? 3).map (fun i => (i.zero, i.size, i.bytes)) = some (some (.int .i64 0), 1, 8) := by kernel_rfl
/-- A draft in a variable. -/
def DrT (w : World) (B : Nat) (x : ByteArray) (L g : Int) (V : Value) : Prop := w.heap[B]? = some (.cells #[.string x, .int .u16 L, .int .u8 g, V] 25 (0, 0))
theorem dr_cells {w : World} {B : Nat} {x : ByteArray} {L g : Int} {V : Value} (h : DrT w B x L g V) : w.cell? ⟨B, 0, none⟩ = some (.string x) ∧ w.cell? ⟨B, 1, none⟩ = some (.int .u16 L) ∧ w.cell? ⟨B, 2, none⟩ = some (.int .u8 g) ∧ w.cell? ⟨B, 3, none⟩ = some V := by
  refine ⟨?_, ?_, ?_, ?_⟩ <;> exact cell_of_row _ _ _ _ _ _ h
theorem offK_succ (gs : List Int) (F : Int) (k : Nat) : offK gs F (k + 1) = offK gs F k ++ (if lastTo gs (k + 1) ≤ F - 64 then [lastTo gs (k + 1)] else []) := rfl
def offsD (gs : List Int) (x : ByteArray) (L : Int) (most : Nat) : List Int := offK gs (frmD x L).size (min gs.length most)
def OffsR (l : List Int) (w : World) (e : Ending) (w' : World) : Prop := ∃ u, e = .returned u ∧ OwnI w' w.heap.size u l ∧ Keep w w'
set_option maxRecDepth 100000 in
set_option maxHeartbeats 4000000 in
theorem offsets_is (x : ByteArray) (L g : Int) (V : Value) (gs : List Int) (most : Nat) (M : Int) (l : List Int) (w : World) (hL : 0 ≤ L ∧ L < 65536) (hx : x.size ≤ maxLen) (hb : BytesL gs) (hV : BytesIn w V gs) (hM : (most : Int) = M) (hmost : most ≤ 1000) (H : Hid (offsD gs x L most = l)) :
    Calls Try.prog 10 #[.agg #[.string x, .int .u16 L, .int .u8 g, V], .int .i64 M] w (OffsR l w) := by
  obtain ⟨t, ht⟩ : ∃ t, frmD x L = t := ⟨_, rfl⟩
  have hts : 64 ≤ t.size ∧ t.size ≤ 1522 := by rw [← ht, frmD_size]; have := lenD_bd L; omega
  have HT := Lib.hid ht
  have hlv := H.out
  unfold offsD at hlv
  rw [ht] at hlv
  obtain ⟨F, hF⟩ : ∃ F : Int, (t.size : Int) = F := ⟨_, rfl⟩
  rw [hF] at hlv
  have hFw : wrap64 (F - 64) = F - 64 := by unfold wrap64; omega
  have HLV := Lib.hid hlv
  have HVV := Lib.hid hV
  have HBL := Lib.hid hb
  obtain ⟨i0, hi, hz0, hz1, hz2⟩ := info_parts infoInt
  obtain ⟨len, hlen⟩ : ∃ len, gs.length = len := ⟨_, rfl⟩
  have hv : (V = .slice none 0 0 ∧ len = 0) ∨ ∃ b off cap, V = .slice (some ⟨b, off, none⟩) len cap ∧ len ≤ 9223372036854775807 ∧ ∀ j, j < len → w.cell? ⟨b, off + j, none⟩ = some (.int .u8 (gs.getD j 0)) := by
    rcases hV with ⟨h1, h2⟩ | ⟨b, off, n', cap, h1, h2, h3, h4⟩
    · exact .inl ⟨h1, by rw [← hlen, h2]; rfl⟩
    · obtain rfl : n' = len := by rw [← hlen, h2]
      exact .inr ⟨b, off, cap, h1, h3, h4⟩
  clear hlv ht hb hV H
  rcases hv with ⟨rfl, hlz⟩ | ⟨b, off, cap, rfl, hlm, hcl⟩
  · go_enter Try.func10, Try.ntmps10
    go_wp2_with (go_at_call 11; ((with_reducible refine (frame_is x L g _ _ _ t _ hL hx HT).mono ?_); rintro e' w1 ⟨rfl, k1⟩))
    have hd1 : DrT w1 w.heap.size x L g _ := keepRow k1 (heap_alloc_new w (.cells #[.string x, .int .u16 L, .int .u8 g, .slice none 0 0] 25))
    have kk1 : Keep w w1 := ((Keep.refl w).alloc _).trans k1
    obtain ⟨A, hA⟩ : ∃ A, w.heap.size = A := ⟨_, rfl⟩
    rw [hA] at hd1 ⊢
    have HD := Lib.hid hd1
    clear hd1 k1
    go_loopw [5, 7, 8] (fun s5 s7 s8 wr => ∃ (k : Nat), k ≤ len ∧ k ≤ most ∧ s7 = .int .i64 (lastTo gs k) ∧ s8 = .int .i64 k ∧ Hid (OwnI wr w1.heap.size s5 (offK gs F k) ∧ Keep w1 wr)) (fun _ _ i _ => most - (intOf i).toNat)
    case atStart => exact ⟨0, by omega, by omega, rfl, rfl, Lib.hid ⟨OwnI.nil _ _, Keep.refl _⟩⟩
    case round =>
      obtain ⟨k, hk, hk2, rfl, rfl, HR⟩ := hrel
      obtain ⟨d0, d1, d2, d3⟩ := dr_cells (keepRow HR.out.2 HD.out)
      obtain rfl : k = 0 := by omega
      have HE : Hid (offK gs F 0 = l) := Lib.hid (by rw [← HLV.out, hlen, hlz, Nat.zero_min])
      go_wp2
      go_ret
      exact ⟨_, rfl, by rw [← HE.out]; exact HR.out.1.base kk1.size, kk1.trans HR.out.2⟩
  · go_enter Try.func10, Try.ntmps10
    go_wp2_with (go_at_call 11; ((with_reducible refine (frame_is x L g _ _ _ t _ hL hx HT).mono ?_); rintro e' w1 ⟨rfl, k1⟩))
    have hd1 : DrT w1 w.heap.size x L g _ := keepRow k1 (heap_alloc_new w (.cells #[.string x, .int .u16 L, .int .u8 g, .slice (some ⟨b, off, none⟩) len cap] 25))
    have kk1 : Keep w w1 := ((Keep.refl w).alloc _).trans k1
    obtain ⟨A, hA⟩ : ∃ A, w.heap.size = A := ⟨_, rfl⟩
    rw [hA] at hd1 ⊢
    have HD := Lib.hid hd1
    clear hd1 k1
    go_loopw [5, 7, 8] (fun s5 s7 s8 wr => ∃ (k : Nat), k ≤ len ∧ k ≤ most ∧ s7 = .int .i64 (lastTo gs k) ∧ s8 = .int .i64 k ∧ Hid (OwnI wr w1.heap.size s5 (offK gs F k) ∧ Keep w1 wr)) (fun _ _ i _ => most - (intOf i).toNat)
    case atStart => exact ⟨0, by omega, by omega, rfl, rfl, Lib.hid ⟨OwnI.nil _ _, Keep.refl _⟩⟩
    case round =>
      obtain ⟨k, hk, hk2, rfl, rfl, HR⟩ := hrel
      obtain ⟨d0, d1, d2, d3⟩ := dr_cells (keepRow HR.out.2 HD.out)
      by_cases hkl : k < len
      · by_cases hkm : k < most
        · have c4 := HR.out.2.some (kk1.some (hcl k hkl))
          have hp := HBL.out k
          have hq := lastTo_bd HBL.out k
          have hstep : lastTo gs (k + 1) = lastTo gs k + 60 + gs.getD k 0 := rfl
          obtain ⟨p, hpe⟩ : ∃ p, gs.getD k 0 = p := ⟨_, rfl⟩
          obtain ⟨q, hqe⟩ : ∃ q, lastTo gs k = q := ⟨_, rfl⟩
          obtain ⟨y, hy⟩ : ∃ y, lastTo gs (k + 1) = y := ⟨_, rfl⟩
          rw [hpe] at c4 hp
          rw [hqe] at hq ⊢
          rw [hpe, hqe, hy] at hstep
          clear hpe hqe
          have HY := Lib.hid hy
          have hkM : (k : Int) < M := by omega
          have hkL : (k : Int) < (len : Int) := by omega
          have hw1 : wrap64 (q + 60) = q + 60 := by unfold wrap64; omega
          have hw2 : wrap64 (q + 60 + p) = y := by rw [← hstep]; unfold wrap64; omega
          have hw3 : IntKind.i64.wrap p = p := IntWalk.i64_in _ (by omega)
          by_cases hle : y ≤ F - 64
          · have HF1 : Hid (offK gs F (k + 1) = offK gs F k ++ [y]) := Lib.hid (by rw [offK_succ, hy, if_pos hle])
            clear hp hq hy hstep
            obtain ⟨q5, hq5⟩ : ∃ q5, (offK gs F k).length = q5 := ⟨_, rfl⟩
            have hq5b := offK_length gs F k
            rw [hq5] at hq5b
            have HO5 : Hid (wr.ownsRow w1.heap.size 3 1 u5 q5 ((offK gs F k).map (Value.int .i64))) := Lib.hid (by have := HR.out.1; unfold OwnI at this; rwa [hq5] at this)
            have HSZ := Lib.hid HR.out.2.size
            go_wp2_with (at_builtin; refine wpList_append_own_at _ rfl _ _ 26 rfl w1.heap.size 3 i0 (.int .i64 0) 1 8 Try.underlying26 hi hz0 hz1 hz2 rfl (by decide) u5 q5 _ rfl (HO5.out.alloc _) ⟨_, 0, none⟩ 1 1 [.int .i64 y] rfl rfl (one_at _ _ _ _ (by simp)) (by intro u hu; simp at hu; subst hu; rfl) (by unfold maxLen; omega) (by omega) (by have := HSZ.out; simp; omega) ?_; intro v' w8 hown8 hg8 hnil8 hat8)
            go_roundw
            case rel =>
              refine ⟨k + 1, by omega, by omega, by rw [HY.out], by go_num, Lib.hid ⟨?_, ?_⟩⟩
              · unfold OwnI
                rw [HF1.out, List.length_append, List.map_append, hq5]
                exact hown8
              · exact (HR.out.2.alloc _).byRow hg8 (fun j e => (HO5.out.lt j e).1)
            case measure => simp [intOf]; omega
          · have HF1 : Hid (offK gs F (k + 1) = offK gs F k) := Lib.hid (by rw [offK_succ, hy, if_neg hle, List.append_nil])
            clear hp hq hy hstep
            go_wp2
            go_roundw
            case rel =>
              exact ⟨k + 1, by omega, by omega, by rw [HY.out, hw2], by go_num, Lib.hid ⟨by rw [HF1.out]; exact HR.out.1, HR.out.2⟩⟩
            case measure => simp [intOf]; omega
        · have hkM : ¬ (k : Int) < M := by omega
          have hkL : (k : Int) < (len : Int) := by omega
          have HE : Hid (offK gs F k = l) := Lib.hid (by rw [← HLV.out, hlen]; congr 1; omega)
          go_wp2
          go_ret
          exact ⟨_, rfl, by rw [← HE.out]; exact HR.out.1.base kk1.size, kk1.trans HR.out.2⟩
      · have hkL : ¬ (k : Int) < (len : Int) := by omega
        have HE : Hid (offK gs F k = l) := Lib.hid (by rw [← HLV.out, hlen]; congr 1; omega)
        go_wp2
        go_ret
        exact ⟨_, rfl, by rw [← HE.out]; exact HR.out.1.base kk1.size, kk1.trans HR.out.2⟩
end Go.Proofs.Ytgejpbgpgklimaa
