/- slices.Collect over the pieces of a frame; what merge.Cut returns. -/
import Derived.Test.YtgejpbgpgklimaaMIter
import Derived.Test.YtgejpbgpgklimaaMChk2
namespace Go.Proofs.Ytgejpbgpgklimaa
open Go Go.RowKit Go.Shelf
attribute [local go_sem] Oper.semAt_some

set_option maxRecDepth 100000 in
set_option maxHeartbeats 4000000 in
theorem appendSeq_in (nF : Nat) (hnF : 2 ≤ nF) (Bn Bc Bs : Nat) (s : ByteArray) (n : Int) (v : Value) (cuts : List Int) (w : World) (hs : s.size ≤ 1522) (hok : okCuts s.size cuts = true)
    (hBn : w.cell? ⟨Bn, 0, none⟩ = some (.int .i64 n)) (hBc : w.cell? ⟨Bc, 0, none⟩ = some v) (hBs : w.cell? ⟨Bs, 0, none⟩ = some (.string s)) (hcuts : ListAt w v cuts) :
    CallsIn Fence.wide nF Try.prog 61 #[.slice none 0 0, .func (.func 62) #[] #[.pointer (some ⟨Bn, 0, none⟩), .pointer (some ⟨Bc, 0, none⟩), .pointer (some ⟨Bs, 0, none⟩)]] w fun e w' => ∃ u, e = .returned u ∧ OwnP w' w.heap.size u (pcsL s n cuts) ∧ Keep w w' := by
  have h1 : 1 ≤ nF := by omega
  obtain ⟨sv, hsv⟩ : ∃ sv, Value.func (.func 62) #[] #[.pointer (some ⟨Bn, 0, none⟩), .pointer (some ⟨Bc, 0, none⟩), .pointer (some ⟨Bs, 0, none⟩)] = sv := ⟨_, rfl⟩
  rw [hsv]
  refine callsIn_of_wp_marks Try.func61 rfl trivial ?_ rfl
  simp only [Try.ntmps61, List.size_toArray, List.length_cons, List.length_nil, Nat.reduceAdd, Nat.reduceSub, Array.replicate_succ, Array.replicate_zero, List.push_toArray, List.append_toArray, List.nil_append, List.cons_append]
  gi_wp2
  refine wpIn_rangeFunc ?_
  intro fn hfn
  obtain ⟨W0, hW0⟩ : ∃ W0, w.alloc (.cells #[.slice none 0 0] 35) = W0 := ⟨_, rfl⟩
  have hs0 : W0.heap.size = w.heap.size + 1 := by rw [← hW0]; simp
  have hv0 : W0.heap[w.heap.size]? = some (.cells #[.slice none 0 0] 35 (0, 0)) := by rw [← hW0]; exact World.alloc_heap_new w _
  have k0 : Keep w W0 := by rw [← hW0]; exact (Keep.refl _).alloc _
  rw [hW0]
  obtain ⟨W1, hW1⟩ : ∃ W1, (W0.alloc (.deferred (some []))).alloc (.loop (apRec fn sv w.heap.size W0.heap.size .ready none)) = W1 := ⟨_, rfl⟩
  have k1 : Keep W0 W1 := by rw [← hW1]; exact ((Keep.refl _).alloc _).alloc _
  have hs1 : W1.heap.size = W0.heap.size + 2 := by rw [← hW1]; simp
  have hL1 : W1.heap[W0.heap.size + 1]? = some (.loop (apRec fn sv w.heap.size W0.heap.size .ready none)) := by
    rw [← hW1]
    have := World.alloc_heap_new (W0.alloc (.deferred (some []))) (.loop (apRec fn sv w.heap.size W0.heap.size .ready none))
    rwa [World.size_alloc] at this
  have hK1 : W1.heap[W0.heap.size]? = some (.deferred (some [])) := by rw [← hW1]; exact keepRow ((Keep.refl _).alloc _) (World.alloc_heap_new W0 _)
  have hM : ∀ P, W1.heap.size ≤ P → ApAt w fn sv w.heap.size (W0.heap.size + 1) W0.heap.size P [] W1 := fun P _ => ⟨⟨_, keepRow k1 hv0, OwnP.nil _ _, by simp [Value.ownBlock]⟩, hL1, hK1, k0.trans k1⟩
  refine ⟨W0.heap.size + 1, [{ target := .collected W0.heap.size, args := #[] }], W1, { target := .fn (.func 62) #[.pointer (some ⟨Bn, 0, none⟩), .pointer (some ⟨Bc, 0, none⟩), .pointer (some ⟨Bs, 0, none⟩)], args := #[.func (.yield (W0.heap.size + 1)) #[] #[]] }, W1, 62,
    #[.func (.yield (W0.heap.size + 1)) #[] #[], .pointer (some ⟨Bn, 0, none⟩), .pointer (some ⟨Bc, 0, none⟩), .pointer (some ⟨Bs, 0, none⟩)], W1, ?_, ?_, ?_, ?_, fun _ => h1, ?_⟩
  · rw [← hW1]
    exact run_enterLoop_outer _ _ _ _ _
  · rw [← hsv]
    simp [resolve, go_sem]
  · intro f' _
    trivial
  · simp [invoke, go_sem]
  · refine (pieces1_in (nF - 1) (by omega) (W0.heap.size + 1) Bn Bc Bs s n v cuts w W1 hs hok hBn hBc hBs hcuts (k0.trans k1) (fun P ss W => ApAt w fn sv w.heap.size (W0.heap.size + 1) W0.heap.size P ss W)
      (fun P ss W' h => h.keep) (fun P ss W' W'' hP h k => h.x k (by omega) (by omega) (by omega) (by omega))
      (fun P ss x W' hP hlt h hl => apYield _ _ w fn hfn sv _ _ _ P (by omega) (by omega) (by omega) (Nat.le_refl _) (by omega) ⟨by omega, by omega, by omega⟩ ss x W' hlt h hl) hM).mono ?_
    rintro e W2 ⟨⟨v0, rfl⟩, P, h2⟩
    obtain ⟨u, hu, hrow, _⟩ := h2.box
    have hend := run_endLoop (P := Try.prog) h2.L (by simp [apRec])
    obtain ⟨W3, hW3⟩ : ∃ W3, W2.putObj (W0.heap.size + 1) (.loop { apRec fn sv w.heap.size W0.heap.size .ready none with state := .exhausted }) = W3 := ⟨_, rfl⟩
    rw [hW3] at hend
    have x3 : KeepX (W0.heap.size + 1) W2 W3 := by rw [← hW3]; exact keepX_obj _ _ _
    have hv3 := x3.row hu (by omega)
    have hK3 := x3.row h2.K (by omega)
    have hrow3 := hrow.x x3 (own_ne hrow h2.L (fun cur e => by cases e))
    have kk3 : Keep w W3 := h2.keep.byX x3 (by omega)
    obtain ⟨hc3, hf3⟩ := box_cell hv3
    clear hW3
    refine ⟨none, W3, hend, ?_⟩
    gi_wp2
    rw [← hs0]
    refine ⟨by simp, .inl ⟨_, _, rfl, run_takeDeferred hK3, ?_⟩⟩
    exact ⟨_, results_tmp rfl _ _ _, u, rfl, hrow3.x (keepX_obj _ _ _) (own_ne hrow3 hK3 (fun cur e => by cases e)), kk3.byX (keepX_obj _ _ _) (by omega)⟩
set_option maxRecDepth 100000 in
theorem collect_is (Bn Bc Bs : Nat) (s : ByteArray) (n : Int) (v : Value) (cuts : List Int) (w : World) (hs : s.size ≤ 1522) (hok : okCuts s.size cuts = true)
    (hBn : w.cell? ⟨Bn, 0, none⟩ = some (.int .i64 n)) (hBc : w.cell? ⟨Bc, 0, none⟩ = some v) (hBs : w.cell? ⟨Bs, 0, none⟩ = some (.string s)) (hcuts : ListAt w v cuts) :
    Calls Try.prog 39 #[.func (.func 62) #[] #[.pointer (some ⟨Bn, 0, none⟩), .pointer (some ⟨Bc, 0, none⟩), .pointer (some ⟨Bs, 0, none⟩)]] w fun e w' => ∃ u, e = .returned u ∧ OwnP w' w.heap.size u (pcsL s n cuts) ∧ Keep w w' := by
  go_enter Try.func39, Try.ntmps39
  go_wp2_with (go_at_call 61; refine (callsIn_wide.1 (appendSeq_in 3 (by omega) Bn Bc Bs s n v cuts w hs hok hBn hBc hBs hcuts)).mono ?_; rintro e w1 ⟨u, rfl, ho, k1⟩)
  go_ret
  exact ⟨u, rfl, ho, k1⟩

def CutR (l : List Pc) (E : Int) (w : World) (e : Ending) (w' : World) : Prop := ∃ u, e = .returned (.tuple #[u, .int .i64 E]) ∧ OwnP w' w.heap.size u l ∧ Keep w w'
theorem list_slice {w : World} {v : Value} {zs : List Int} (h : ListAt w v zs) : ∃ a0 len cap, v = .slice a0 len cap := by
  rcases h with ⟨rfl, _⟩ | ⟨b, off, n, cap, rfl, _⟩
  · exact ⟨_, _, _, rfl⟩
  · exact ⟨_, _, _, rfl⟩
theorem three_cells (w : World) (a b c : Value) (s t u : TypeId) : ∃ w0 A B C, ((w.alloc (.cells #[a] s)).alloc (.cells #[b] t)).alloc (.cells #[c] u) = w0 ∧ w.heap.size = A ∧ w.heap.size + 1 = B ∧ w.heap.size + 1 + 1 = C ∧ w0.cell? ⟨A, 0, none⟩ = some a ∧ w0.cell? ⟨B, 0, none⟩ = some b ∧ w0.cell? ⟨C, 0, none⟩ = some c ∧ Keep w w0 := by
  refine ⟨_, _, _, _, rfl, rfl, rfl, rfl, ?_, ?_, ?_, (((Keep.refl w).alloc _).alloc _).alloc _⟩
  · refine (((Keep.refl (w.alloc (.cells #[a] s))).alloc _).alloc _).some ?_
    rw [cell_of_row _ _ _ _ _ _ (heap_alloc_new w _)]
    rfl
  · have h := heap_alloc_new (w.alloc (.cells #[a] s)) (.cells #[b] t)
    rw [World.size_alloc] at h
    refine ((Keep.refl ((w.alloc (.cells #[a] s)).alloc (.cells #[b] t))).alloc _).some ?_
    rw [cell_of_row _ _ _ _ _ _ h]
    rfl
  · have h := heap_alloc_new ((w.alloc (.cells #[a] s)).alloc (.cells #[b] t)) (.cells #[c] u)
    rw [World.size_alloc, World.size_alloc] at h
    rw [cell_of_row _ _ _ _ _ _ h]
    rfl
set_option maxRecDepth 100000 in
set_option maxHeartbeats 2000000 in
theorem cut_is (s : ByteArray) (n : Int) (v : Value) (cuts : List Int) (l : List Pc) (E : Int) (w : World) (h : ListAt w v cuts) (HL : Hid (cutL s n cuts = l)) (HE : Hid (cutE s n cuts = E)) :
    Calls Try.prog 13 #[.string s, .int .i64 n, v] w (CutR l E w) := by
  have hl := HL.out
  have he := HE.out
  clear HL HE
  obtain ⟨a0, len, cap, rfl⟩ := list_slice h
  unfold cutL at hl
  unfold cutE at he
  cases hb : inB 64 s.size 1522 with
  | false =>
    have hw : wholeB s = false := by unfold wholeB; rw [hb]; rfl
    rw [hw] at hl he
    simp only [Bool.false_and, Bool.false_eq_true, if_false] at hl he
    subst hl he
    have HB := Lib.hid hb
    clear hb hw
    go_enter Try.func13, Try.ntmps13
    go_wp2_with (go_at_call 36; ((with_reducible refine (mbet_is _ _ _ _ _ HB).mono ?_); rintro e' w1 ⟨rfl, rfl⟩))
    go_ret2
    exact ⟨_, rfl, OwnP.nil _ _, Keep.refl _⟩
  | true =>
    have HB := Lib.hid hb
    have hsz := inB_iff.1 hb
    cases hg : goodS s 0#32 with
    | false =>
      have hw : wholeB s = false := by unfold wholeB; rw [hg, Bool.and_false]
      rw [hw] at hl he
      simp only [Bool.false_and, Bool.false_eq_true, if_false] at hl he
      subst hl he
      have HG := Lib.hid hg
      clear hb hw hg
      go_enter Try.func13, Try.ntmps13
      go_wp2_with (first | (go_at_call 36; ((with_reducible refine (mbet_is _ _ _ _ _ HB).mono ?_); rintro e' w1 ⟨rfl, rfl⟩)) | (go_at_call 28; ((with_reducible refine (good_is s false _ (by omega) HG).mono ?_); rintro e' w2 ⟨rfl, k2⟩)))
      go_ret2
      exact ⟨_, rfl, OwnP.nil _ _, k2⟩
    | true =>
      have hw : wholeB s = true := by unfold wholeB; rw [hg, hb]; rfl
      rw [hw] at hl he
      simp only [Bool.true_and, if_true] at hl he
      have HG := Lib.hid hg
      clear hb hw hg
      cases hr : inB 0 n 3 with
      | false =>
        rw [hr] at hl he
        simp only [Bool.false_and, Bool.false_eq_true, if_false] at hl he
        subst hl he
        have HR := Lib.hid hr
        clear hr
        go_enter Try.func13, Try.ntmps13
        go_wp2_with (first | (go_at_call 36; ((with_reducible refine (mbet_is _ _ _ _ _ HB).mono ?_); rintro e' w1 ⟨rfl, rfl⟩)) | (go_at_call 28; ((with_reducible refine (good_is s true _ (by omega) HG).mono ?_); rintro e' w2 ⟨rfl, k2⟩)) | (go_at_call 37; ((with_reducible refine (isResidue_is _ _ _ HR).mono ?_); rintro e' w3 ⟨rfl, h3⟩; subst h3)))
        go_ret2
        exact ⟨_, rfl, OwnP.nil _ _, k2⟩
      | true =>
        rw [hr] at hl he
        simp only [Bool.true_and, if_true] at hl he
        have HR := Lib.hid hr
        clear hr
        cases hc : okCuts s.size cuts with
        | false =>
          rw [hc] at hl he
          simp only [Bool.false_eq_true, if_false] at hl he
          subst hl he
          have HC := Lib.hid hc
          clear hc
          go_enter Try.func13, Try.ntmps13
          go_wp2_with (first | (go_at_call 36; ((with_reducible refine (mbet_is _ _ _ _ _ HB).mono ?_); rintro e' w1 ⟨rfl, rfl⟩)) | (go_at_call 28; ((with_reducible refine (good_is s true _ (by omega) HG).mono ?_); rintro e' w2 ⟨rfl, k2⟩)) | (go_at_call 37; ((with_reducible refine (isResidue_is _ _ _ HR).mono ?_); rintro e' w3 ⟨rfl, h3⟩; subst h3)) | (go_at_call 38; ((with_reducible refine (areCuts_is _ cuts _ false _ hsz (h.keep k2) HC).mono ?_); rintro e' w4 ⟨rfl, h4⟩; subst h4)))
          go_ret2
          exact ⟨_, rfl, OwnP.nil _ _, k2⟩
        | true =>
          rw [hc] at hl he
          simp only [if_true] at hl he
          subst hl he
          have HC := Lib.hid hc
          clear hc
          go_enter Try.func13, Try.ntmps13
          go_wp2_with (first | (go_at_call 36; ((with_reducible refine (mbet_is _ _ _ _ _ HB).mono ?_); rintro e' w1 ⟨rfl, rfl⟩)) | (go_at_call 28; ((with_reducible refine (good_is s true _ (by omega) HG).mono ?_); rintro e' w2 ⟨rfl, k2⟩)) | (go_at_call 37; ((with_reducible refine (isResidue_is _ _ _ HR).mono ?_); rintro e' w3 ⟨rfl, h3⟩; subst h3)) | (go_at_call 38; ((with_reducible refine (areCuts_is _ cuts _ true _ hsz (h.keep k2) HC).mono ?_); rintro e' w4 ⟨rfl, h4⟩; subst h4)) | (go_at_call 40; ((with_reducible refine (pieces_is s n a0 len cap _).mono ?_); rintro e' w5 ⟨rfl, h5⟩)))
          obtain ⟨w6, A, B, C, hw6, hA, hB, hC, cA, cB, cC, k6⟩ := three_cells w4 (.string s) (.int .i64 n) (.slice a0 len cap) 9 3 26
          rw [hw6, hC, hB, hA]
          refine (collect_is B C A s n (.slice a0 len cap) cuts w6 (by omega) HC.out cB cC cA ((h.keep k2).keep k6)).mono ?_
          rintro e' w7 ⟨u, rfl, ho, k7⟩
          go_wp2
          go_ret2
          exact ⟨u, rfl, ho.base (Nat.le_trans k2.size k6.size), (k2.trans k6).trans k7⟩
end Go.Proofs.Ytgejpbgpgklimaa
