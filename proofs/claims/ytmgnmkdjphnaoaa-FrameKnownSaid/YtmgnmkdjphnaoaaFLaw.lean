/- What the laws' helpers and the reference's Decode return. -/
import Derived.Test.YtmgnmkdjphnaoaaFDecode
import Derived.Test.YtmgnmkdjphnaoaaFCand2
namespace Go.Proofs.Ytmgnmkdjphnaoaa
open Go Go.RowKit

set_option maxRecDepth 100000 in
theorem malformed_some (s : ByteArray) (f : Frm) (w : World) (hs : s.size ≤ maxLen) (H : Hid (decP s = some f)) : Calls Try.prog 25 #[.string s] w (Res (.bool false) w) := by
  have hq : ∀ w', Calls Try.prog 19 #[.string s] w' (DecR f 0 w') := fun w' => decode_is s (some f) w' hs H
  obtain ⟨D, S, T, P, V, Q, N, Y, X⟩ := f
  have HQ := Lib.hid hq
  clear hq H
  go_enter Try.func25, Try.ntmps25
  go_wp2_with (go_at_call 19; ((with_reducible refine (HQ.out _).mono ?_); rintro e' w1 ⟨rfl, k1⟩))
  all_goals
    go_ret
    exact ⟨rfl, k1.alloc _⟩
set_option maxRecDepth 100000 in
theorem malformed_none (s : ByteArray) (w : World) (hs : s.size ≤ maxLen) (H : Hid (decP s = none)) : Calls Try.prog 25 #[.string s] w (Res (.bool true) w) := by
  have hq : ∀ w', Calls Try.prog 19 #[.string s] w' (DecR ⟨0, 0, false, 0, 0, false, 0, 0, ⟨#[]⟩⟩ 5 w') := fun w' => decode_is s none w' hs H
  have HQ := Lib.hid hq
  clear hq H
  go_enter Try.func25, Try.ntmps25
  go_wp2_with (go_at_call 19; ((with_reducible refine (HQ.out _).mono ?_); rintro e' w1 ⟨rfl, k1⟩))
  go_ret
  exact ⟨rfl, k1.alloc _⟩
/-- Whether Decode finds no frame. -/
def badB (s : ByteArray) : Bool := (decP s).isNone
theorem malformed_is (s : ByteArray) (b : Bool) (w : World) (hs : s.size ≤ maxLen) (H : Hid (badB s = b)) : Calls Try.prog 25 #[.string s] w (Res (.bool b) w) := by
  rw [← H.out]
  unfold badB
  cases h : decP s with
  | none => exact malformed_none s w hs (Lib.hid h)
  | some f => exact malformed_some s f w hs (Lib.hid h)
set_option maxRecDepth 100000 in
theorem size_is (D S P V N Y : Int) (T Q : Bool) (X : ByteArray) (n : Int) (w : World) (HO : Hid (Frm.ok ⟨D, S, T, P, V, Q, N, Y, X⟩ = true)) (HN : Hid (Frm.wire ⟨D, S, T, P, V, Q, N, Y, X⟩ = n)) : Calls Try.prog 28 #[.agg #[.int .i64 D, .int .i64 S, .bool T, .int .i64 P, .int .i64 V, .bool Q, .int .i64 N, .int .i64 Y, .string X], .int .i64 n] w (Res (.bool true) w) := by
  have HE : Hid (Frm.err ⟨D, S, T, P, V, Q, N, Y, X⟩ = 0) := Lib.hid (err_ok HO.out)
  clear HO
  go_enter Try.func28, Try.ntmps28
  go_wp2_with (go_at_call 13; ((with_reducible refine (wire_is D S P V N Y T Q X n 0 _ HN HE).mono ?_); rintro e' w1 ⟨rfl, k1⟩))
  go_ret
  exact ⟨rfl, ((Keep.refl w).alloc _).trans k1⟩
set_option maxRecDepth 100000 in
set_option maxHeartbeats 2000000 in
theorem back_is (D S P V N Y : Int) (T Q : Bool) (X : ByteArray) (w : World) (D' S' P' V' N' Y' : Int) (T' Q' : Bool) (X' : ByteArray) (HO : Hid (Frm.ok ⟨D, S, T, P, V, Q, N, Y, X⟩ = true)) (HN : Hid (decP (Frm.enc ⟨D, S, T, P, V, Q, N, Y, X⟩) = some ⟨D', S', T', P', V', Q', N', Y', X'⟩)) : Calls Try.prog 23 #[.agg #[.int .i64 D, .int .i64 S, .bool T, .int .i64 P, .int .i64 V, .bool Q, .int .i64 N, .int .i64 Y, .string X], .agg #[.int .i64 D', .int .i64 S', .bool T', .int .i64 P', .int .i64 V', .bool Q', .int .i64 N', .int .i64 Y', .string X']] w (Res (.bool true) w) := by
  have HE : Hid (Frm.err ⟨D, S, T, P, V, Q, N, Y, X⟩ = 0) := Lib.hid (err_ok HO.out)
  have hst := str_ok HO.out
  have hx := ok_data _ HO.out
  have hl := hd_le ⟨D, S, T, P, V, Q, N, Y, X⟩
  have hz := enc_sz ⟨D, S, T, P, V, Q, N, Y, X⟩
  obtain ⟨t, ht⟩ : ∃ t, Frm.enc ⟨D, S, T, P, V, Q, N, Y, X⟩ = t := ⟨_, rfl⟩
  rw [ht] at hst hz
  have hts : t.size ≤ maxLen := by unfold maxLen; dsimp only at hz hx; omega
  have hq : ∀ w', Calls Try.prog 19 #[.string t] w' (DecR ⟨D', S', T', P', V', Q', N', Y', X'⟩ 0 w') := fun w' => decode_is t (some ⟨D', S', T', P', V', Q', N', Y', X'⟩) w' hts (Lib.hid (by rw [← ht]; exact HN.out))
  have HQ := Lib.hid hq
  have HT := Lib.hid hst
  clear hq HN HO hst hx hl hz ht hts
  go_enter Try.func23, Try.ntmps23
  go_upto_region 1 with fail
  have h1 : FrAt ((w.alloc (.cells #[.int .i64 D, .int .i64 S, .bool T, .int .i64 P, .int .i64 V, .bool Q, .int .i64 N, .int .i64 Y, .string X] 23)).alloc (.cells #[.int .i64 D', .int .i64 S', .bool T', .int .i64 P', .int .i64 V', .bool Q', .int .i64 N', .int .i64 Y', .string X'] 23)) w.heap.size D S T P V Q N Y X := keepRow ((Keep.refl _).alloc _) (heap_alloc_new w _)
  have h2 : FrAt ((w.alloc (.cells #[.int .i64 D, .int .i64 S, .bool T, .int .i64 P, .int .i64 V, .bool Q, .int .i64 N, .int .i64 Y, .string X] 23)).alloc (.cells #[.int .i64 D', .int .i64 S', .bool T', .int .i64 P', .int .i64 V', .bool Q', .int .i64 N', .int .i64 Y', .string X'] 23)) (w.heap.size + 1) D' S' T' P' V' Q' N' Y' X' := by
    have := heap_alloc_new (w.alloc (.cells #[.int .i64 D, .int .i64 S, .bool T, .int .i64 P, .int .i64 V, .bool Q, .int .i64 N, .int .i64 Y, .string X] 23)) (.cells #[.int .i64 D', .int .i64 S', .bool T', .int .i64 P', .int .i64 V', .bool Q', .int .i64 N', .int .i64 Y', .string X'] 23)
    rw [show (w.alloc (.cells #[.int .i64 D, .int .i64 S, .bool T, .int .i64 P, .int .i64 V, .bool Q, .int .i64 N, .int .i64 Y, .string X] 23)).heap.size = w.heap.size + 1 by simp] at this
    exact this
  have K := Lib.hid (((Keep.refl w).alloc (.cells #[.int .i64 D, .int .i64 S, .bool T, .int .i64 P, .int .i64 V, .bool Q, .int .i64 N, .int .i64 Y, .string X] 23)).alloc (.cells #[.int .i64 D', .int .i64 S', .bool T', .int .i64 P', .int .i64 V', .bool Q', .int .i64 N', .int .i64 Y', .string X'] 23))
  generalize (w.alloc (.cells #[.int .i64 D, .int .i64 S, .bool T, .int .i64 P, .int .i64 V, .bool Q, .int .i64 N, .int .i64 Y, .string X] 23)).alloc (.cells #[.int .i64 D', .int .i64 S', .bool T', .int .i64 P', .int .i64 V', .bool Q', .int .i64 N', .int .i64 Y', .string X'] 23) = w0 at *
  generalize w.heap.size + 1 = B at *
  generalize w.heap.size = A at *
  obtain ⟨c0, c1, c2, c3, c4, c5, c6, c7, c8⟩ := fr_cells h1
  go_upto_region 3 with (first | (go_at_call 11; ((with_reducible refine (encode_is D S P V N Y T Q X t 0 _ HT HE).mono ?_); rintro e' w1 ⟨rfl, k1⟩; have h2 := fr_k h2 k1)) | (go_at_call 19; ((with_reducible refine (HQ.out _).mono ?_); rintro e' w2 ⟨rfl, k2⟩; have h2 := fr_k h2 k2)))
  have h3 : FrAt (w2.alloc (.cells #[.int .i64 D', .int .i64 S', .bool T', .int .i64 P', .int .i64 V', .bool Q', .int .i64 N', .int .i64 Y', .string X'] 23)) w2.heap.size D' S' T' P' V' Q' N' Y' X' := heap_alloc_new w2 _
  have h4 : FrAt (w2.alloc (.cells #[.int .i64 D', .int .i64 S', .bool T', .int .i64 P', .int .i64 V', .bool Q', .int .i64 N', .int .i64 Y', .string X'] 23)) B D' S' T' P' V' Q' N' Y' X' := keepRow ((Keep.refl _).alloc _) h2
  have K4 := Lib.hid (((K.out.trans k1).trans k2).alloc (.cells #[.int .i64 D', .int .i64 S', .bool T', .int .i64 P', .int .i64 V', .bool Q', .int .i64 N', .int .i64 Y', .string X'] 23))
  clear c0 c1 c2 c3 c4 c5 c6 c7 c8 h1 h2 K k1 k2
  generalize w2.alloc (.cells #[.int .i64 D', .int .i64 S', .bool T', .int .i64 P', .int .i64 V', .bool Q', .int .i64 N', .int .i64 Y', .string X'] 23) = w3 at *
  generalize w2.heap.size = C at *
  obtain ⟨c0, c1, c2, c3, c4, c5, c6, c7, c8⟩ := fr_cells h3
  obtain ⟨d0, d1, d2, d3, d4, d5, d6, d7, d8⟩ := fr_cells h4
  go_wp2
  go_ret
  exact ⟨rfl, K4.out⟩
set_option maxRecDepth 100000 in
theorem hello_any (w : World) : Calls Try.prog 27 #[] w (RetF ⟨1, 2, false, 0, 0, false, 0, 2048, ⟨#[104, 101, 108, 108, 111]⟩⟩ w) := by
  go_enter Try.func27, Try.ntmps27
  go_upto_region 1 with fail
  have hc : FrAt (w.alloc (.cells #[.int .i64 0, .int .i64 0, .bool false, .int .i64 0, .int .i64 0, .bool false, .int .i64 0, .int .i64 0, .string ⟨#[]⟩] 23)) w.heap.size 0 0 false 0 0 false 0 0 ⟨#[]⟩ := heap_alloc_new w _
  go_wp2_with (refine wpList_store_row rfl 23 _ _ rfl w.heap.size rfl 23 _ #[.int .i64 1, .int .i64 2, .bool false, .int .i64 0, .int .i64 0, .bool false, .int .i64 0, .int .i64 2048, .string ⟨#[104, 101, 108, 108, 111]⟩] rfl hc rfl (fr_one _ _ _ _ _ _ _ _ _) info_frame ?_)
  have hg := setRow_heap _ w.heap.size _ #[.int .i64 1, .int .i64 2, .bool false, .int .i64 0, .int .i64 0, .bool false, .int .i64 0, .int .i64 2048, .string ⟨#[104, 101, 108, 108, 111]⟩] _ _ hc
  exact bodyPost_end (v := .agg #[.int .i64 1, .int .i64 2, .bool false, .int .i64 0, .int .i64 0, .bool false, .int .i64 0, .int .i64 2048, .string ⟨#[104, 101, 108, 108, 111]⟩]) (results_cell_row Try.results27 _ _ w.heap.size _ #[.int .i64 1, .int .i64 2, .bool false, .int .i64 0, .int .i64 0, .bool false, .int .i64 0, .int .i64 2048, .string ⟨#[104, 101, 108, 108, 111]⟩] _ _ rfl hg Try.underlying23 rfl info_frame) rfl ⟨rfl, ((Keep.refl w).alloc _).setRow (Nat.le_refl _) _⟩
/-- The frame that s encodes, as the reference finds it. -/
def decR (s : ByteArray) : Option Frm := if s.size < 64 then none else if (cand s).ok = true ∧ (cand s).enc = s then some (cand s) else none
theorem results_one {P : Program} {fn : Func} {p q : Tmp} {ty : TypeId} (h : fn.results = #[.cell p ty, .tmp q]) (tmps : Array Value) (w : World) (g : Nat) (t : TypeId) (cs : Array Value) (fr : Nat × Nat) (d : TypeDesc) (v : Value)
    (hp : tmps.getD p undef = .pointer (some ⟨g, 0, none⟩)) (hq : tmps.getD q undef = v) (hg : w.heap[g]? = some (.cells cs t fr))
    (hu : P.underlying ty = some d) (hd : (match d with | .struct _ | .array _ _ => true | _ => false) = true) (hi : (P.info? ty).map (·.size) = some cs.size) :
    (results fn tmps).run P w = .ok (.tuple #[.agg cs, v]) w := by
  have hp' : tmps[p]?.getD undef = .pointer (some ⟨g, 0, none⟩) := by simpa using hp
  have hq' : tmps[q]?.getD undef = v := by simpa using hq
  simp [results, h, hp', hq', asAddr, run_loadVar_row w g t ty cs fr d hg hu hd hi]
set_option maxRecDepth 100000 in
set_option maxHeartbeats 4000000 in
theorem refDecode_is (s : ByteArray) (o : Option Frm) (w : World) (hs : s.size ≤ maxLen) (H : Hid (decR s = o)) : Calls Try.prog 20 #[.string s] w (DecR (decV o) (decE o) w) := by
  have h := H.out
  clear H
  unfold decR at h
  have hs' := hs
  unfold maxLen at hs'
  go_enter Try.func20, Try.ntmps20
  go_upto_region 1 with fail
  have hc : FrAt (w.alloc (.cells #[.int .i64 0, .int .i64 0, .bool false, .int .i64 0, .int .i64 0, .bool false, .int .i64 0, .int .i64 0, .string ⟨#[]⟩] 23)) w.heap.size 0 0 false 0 0 false 0 0 ⟨#[]⟩ := heap_alloc_new w _
  have K := Lib.hid ((Keep.refl w).alloc (.cells #[.int .i64 0, .int .i64 0, .bool false, .int .i64 0, .int .i64 0, .bool false, .int .i64 0, .int .i64 0, .string ⟨#[]⟩] 23))
  generalize w.alloc (.cells #[.int .i64 0, .int .i64 0, .bool false, .int .i64 0, .int .i64 0, .bool false, .int .i64 0, .int .i64 0, .string ⟨#[]⟩] 23) = w0 at *
  obtain ⟨C, hC⟩ : ∃ C, w.heap.size = C := ⟨_, rfl⟩
  rw [hC] at hc ⊢
  have HCW : Hid (w.heap.size ≤ C) := Lib.hid (Nat.le_of_eq hC)
  clear hC
  by_cases h64 : s.size < 64
  · rw [if_pos h64] at h
    subst h
    have hd : decide ((s.size : Int) < 64) = true := decide_eq_true (by omega)
    go_wp2_with (refine wpList_store_row rfl 23 _ _ rfl C rfl 23 _ #[.int .i64 0, .int .i64 0, .bool false, .int .i64 0, .int .i64 0, .bool false, .int .i64 0, .int .i64 0, .string ⟨#[]⟩] rfl hc rfl (fr_one _ _ _ _ _ _ _ _ _) info_frame ?_)
    have hg := setRow_heap _ C _ #[.int .i64 0, .int .i64 0, .bool false, .int .i64 0, .int .i64 0, .bool false, .int .i64 0, .int .i64 0, .string ⟨#[]⟩] _ _ hc
    exact bodyPost_ret (results_one Try.results20 _ _ C _ #[.int .i64 0, .int .i64 0, .bool false, .int .i64 0, .int .i64 0, .bool false, .int .i64 0, .int .i64 0, .string ⟨#[]⟩] _ _ _ rfl rfl hg Try.underlying23 rfl info_frame) rfl ⟨rfl, K.out.setRow HCW.out _⟩
  · rw [if_neg h64] at h
    have hd : decide ((s.size : Int) < 64) = false := decide_eq_false (by omega)
    have hq : ∀ w', Calls Try.prog 39 #[.string s] w' (RetF (cand s) w') := fun w' => cand_any s w' (by omega) hs
    obtain ⟨f, hf⟩ : ∃ f, cand s = f := ⟨_, rfl⟩
    rw [hf] at h hq
    clear hf
    obtain ⟨D, S, T, P, V, Q, N, Y, X⟩ := f
    have HQ := Lib.hid hq
    clear hq
    obtain ⟨t, ht⟩ : ∃ t, Frm.str ⟨D, S, T, P, V, Q, N, Y, X⟩ = t := ⟨_, rfl⟩
    have HT := Lib.hid ht
    cases hok : Frm.ok ⟨D, S, T, P, V, Q, N, Y, X⟩ with
    | false =>
      obtain rfl : o = none := by rw [← h, hok]; rfl
      have HE : Hid (Frm.err ⟨D, S, T, P, V, Q, N, Y, X⟩ = 170) := Lib.hid (err_no hok)
      clear h ht hok
      go_wp2_with (first | (go_at_call 39; ((with_reducible refine (HQ.out _).mono ?_); rintro e' w1 ⟨rfl, k1⟩; have hc := fr_k hc k1)) | (go_at_call 12; ((with_reducible refine (refEncode_is D S P V N Y T Q X t 170 _ HT HE).mono ?_); rintro e' w2 ⟨rfl, k2⟩; have hc := fr_k (fr_k hc ((Keep.refl w1).alloc (.cells #[.int .i64 D, .int .i64 S, .bool T, .int .i64 P, .int .i64 V, .bool Q, .int .i64 N, .int .i64 Y, .string X] 23))) k2)) | (refine wpList_store_row rfl 23 _ _ rfl C rfl 23 _ #[.int .i64 0, .int .i64 0, .bool false, .int .i64 0, .int .i64 0, .bool false, .int .i64 0, .int .i64 0, .string ⟨#[]⟩] rfl hc rfl (fr_one _ _ _ _ _ _ _ _ _) info_frame ?_))
      have hg := setRow_heap _ C _ #[.int .i64 0, .int .i64 0, .bool false, .int .i64 0, .int .i64 0, .bool false, .int .i64 0, .int .i64 0, .string ⟨#[]⟩] _ _ hc
      exact bodyPost_ret (results_one Try.results20 _ _ C _ #[.int .i64 0, .int .i64 0, .bool false, .int .i64 0, .int .i64 0, .bool false, .int .i64 0, .int .i64 0, .string ⟨#[]⟩] _ _ _ rfl rfl hg Try.underlying23 rfl info_frame) rfl ⟨rfl, (((K.out.trans k1).alloc _).trans k2).setRow HCW.out _⟩
    | true =>
      have HE : Hid (Frm.err ⟨D, S, T, P, V, Q, N, Y, X⟩ = 0) := Lib.hid (err_ok hok)
      rw [str_ok hok] at ht
      by_cases he : t = s
      · obtain rfl : o = some ⟨D, S, T, P, V, Q, N, Y, X⟩ := by rw [← h, ht, if_pos ⟨hok, he⟩]
        subst he
        clear h ht hok
        go_upto_region 7 with (first | (go_at_call 39; ((with_reducible refine (HQ.out _).mono ?_); rintro e' w1 ⟨rfl, k1⟩; have hc := fr_k hc k1)) | (go_at_call 12; ((with_reducible refine (refEncode_is D S P V N Y T Q X t 0 _ HT HE).mono ?_); rintro e' w2 ⟨rfl, k2⟩; have hc := fr_k (fr_k hc ((Keep.refl w1).alloc (.cells #[.int .i64 D, .int .i64 S, .bool T, .int .i64 P, .int .i64 V, .bool Q, .int .i64 N, .int .i64 Y, .string X] 23))) k2)))
        have hb : FrAt w2 w1.heap.size D S T P V Q N Y X := fr_k (heap_alloc_new w1 (.cells #[.int .i64 D, .int .i64 S, .bool T, .int .i64 P, .int .i64 V, .bool Q, .int .i64 N, .int .i64 Y, .string X] 23)) k2
        have K2 := Lib.hid (((K.out.trans k1).alloc (.cells #[.int .i64 D, .int .i64 S, .bool T, .int .i64 P, .int .i64 V, .bool Q, .int .i64 N, .int .i64 Y, .string X] 23)).trans k2)
        clear k1 k2 K
        generalize w1.heap.size = B at *
        go_wp2_with (first | (refine wpList_load_row rfl 23 _ rfl B rfl 23 #[.int .i64 D, .int .i64 S, .bool T, .int .i64 P, .int .i64 V, .bool Q, .int .i64 N, .int .i64 Y, .string X] (0, 0) _ hb Try.underlying23 rfl info_frame ?_) | (refine wpList_store_row rfl 23 _ _ rfl C rfl 23 _ #[.int .i64 D, .int .i64 S, .bool T, .int .i64 P, .int .i64 V, .bool Q, .int .i64 N, .int .i64 Y, .string X] rfl hc rfl (fr_one _ _ _ _ _ _ _ _ _) info_frame ?_))
        have hg := setRow_heap _ C _ #[.int .i64 D, .int .i64 S, .bool T, .int .i64 P, .int .i64 V, .bool Q, .int .i64 N, .int .i64 Y, .string X] _ _ hc
        exact bodyPost_ret (results_one Try.results20 _ _ C _ #[.int .i64 D, .int .i64 S, .bool T, .int .i64 P, .int .i64 V, .bool Q, .int .i64 N, .int .i64 Y, .string X] _ _ _ rfl rfl hg Try.underlying23 rfl info_frame) rfl ⟨rfl, K2.out.setRow HCW.out _⟩
      · obtain rfl : o = none := by rw [← h, ht, if_neg (fun c => he c.2)]
        have hne : (t.toList == s.toList) = false := by rw [beq_bytes]; exact decide_eq_false (fun c => he (bytes_ext c))
        clear h ht hok
        go_wp2_with (first | (go_at_call 39; ((with_reducible refine (HQ.out _).mono ?_); rintro e' w1 ⟨rfl, k1⟩; have hc := fr_k hc k1)) | (go_at_call 12; ((with_reducible refine (refEncode_is D S P V N Y T Q X t 0 _ HT HE).mono ?_); rintro e' w2 ⟨rfl, k2⟩; have hc := fr_k (fr_k hc ((Keep.refl w1).alloc (.cells #[.int .i64 D, .int .i64 S, .bool T, .int .i64 P, .int .i64 V, .bool Q, .int .i64 N, .int .i64 Y, .string X] 23))) k2)) | (refine wpList_store_row rfl 23 _ _ rfl C rfl 23 _ #[.int .i64 0, .int .i64 0, .bool false, .int .i64 0, .int .i64 0, .bool false, .int .i64 0, .int .i64 0, .string ⟨#[]⟩] rfl hc rfl (fr_one _ _ _ _ _ _ _ _ _) info_frame ?_))
        have hg := setRow_heap _ C _ #[.int .i64 0, .int .i64 0, .bool false, .int .i64 0, .int .i64 0, .bool false, .int .i64 0, .int .i64 0, .string ⟨#[]⟩] _ _ hc
        exact bodyPost_ret (results_one Try.results20 _ _ C _ #[.int .i64 0, .int .i64 0, .bool false, .int .i64 0, .int .i64 0, .bool false, .int .i64 0, .int .i64 0, .string ⟨#[]⟩] _ _ _ rfl rfl hg Try.underlying23 rfl info_frame) rfl ⟨rfl, (((K.out.trans k1).alloc _).trans k2).setRow HCW.out _⟩
end Go.Proofs.Ytmgnmkdjphnaoaa
