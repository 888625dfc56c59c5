/- What frame.decoded and frame.Decode return. -/
import Derived.Test.YtmgnmkdjphnaoaaFFields
import Derived.Defers
import Derived.Recover
namespace Go.Proofs.Ytmgnmkdjphnaoaa
open Go Go.RowKit

/-- The frame that s encodes, as the package reads it. -/
def decP (s : ByteArray) : Option Frm := (rdF s).bind fun f => if f.ok = true ∧ f.enc = s then some f else none
theorem decP_of {s : ByteArray} {f : Frm} (h : rdF s = some f) : decP s = if f.ok = true ∧ f.enc = s then some f else none := by unfold decP; rw [h]; rfl

set_option maxRecDepth 100000 in
set_option maxHeartbeats 4000000 in
theorem decoded_is (s : ByteArray) (o : Option Frm) (w : World) (hs : s.size ≤ maxLen) (H : Hid (decP s = o)) : Calls Try.prog 38 #[.string s] w (Reads o w) := by
  have h := H.out
  clear H
  cases hr : rdF s with
  | none =>
    obtain rfl : o = none := by rw [← h]; unfold decP; rw [hr]; rfl
    have HR := Lib.hid hr
    clear h hr
    go_enter Try.func38, Try.ntmps38
    go_wp2_with (go_at_call 52; ((with_reducible refine (fields_is s none _ hs HR).mono ?_); rintro e' w1 ⟨⟨t, v, rfl⟩, k1⟩))
    exact ⟨rfl, ⟨_, _, rfl⟩, (((Keep.refl w).alloc _).trans k1)⟩
  | some f =>
    rw [decP_of hr] at h
    have HR := Lib.hid hr
    clear hr
    have hq : ∀ w', Calls Try.prog 52 #[.string s] w' (Reads (some f) w') := fun w' => fields_is s (some f) w' hs HR
    obtain ⟨D, S, T, P, V, Q, N, Y, X⟩ := f
    have HQ := Lib.hid hq
    clear hq HR
    obtain ⟨t, ht⟩ : ∃ t, Frm.str ⟨D, S, T, P, V, Q, N, Y, X⟩ = t := ⟨_, rfl⟩
    have HT := Lib.hid ht
    cases hok : Frm.ok ⟨D, S, T, P, V, Q, N, Y, X⟩ with
    | false =>
      obtain rfl : o = none := by rw [← h, hok]; rfl
      have HE : Hid (Frm.err ⟨D, S, T, P, V, Q, N, Y, X⟩ = 170) := Lib.hid (err_no hok)
      clear h ht hok
      go_enter Try.func38, Try.ntmps38
      go_wp2_with (first | (go_at_call 52; ((with_reducible refine (HQ.out _).mono ?_); rintro e' w1 ⟨rfl, k1⟩)) | (go_at_call 11; ((with_reducible refine (encode_is D S P V N Y T Q X t 170 _ HT HE).mono ?_); rintro e' w2 ⟨rfl, k2⟩)) | (go_at_call 53; ((with_reducible refine (must_no 170 _ (by decide)).mono ?_); rintro e' w3 ⟨rfl, hw3⟩; subst hw3)))
      exact ⟨rfl, ⟨_, _, rfl⟩, (((((Keep.refl w).alloc _).trans k1).alloc _).trans k2)⟩
    | true =>
      have HE : Hid (Frm.err ⟨D, S, T, P, V, Q, N, Y, X⟩ = 0) := Lib.hid (err_ok hok)
      rw [str_ok hok] at ht
      by_cases he : t = s
      · obtain rfl : o = some ⟨D, S, T, P, V, Q, N, Y, X⟩ := by rw [← h, ht, if_pos ⟨hok, he⟩]
        subst he
        clear h ht hok
        go_enter Try.func38, Try.ntmps38
        go_upto_region 6 with (first | (go_at_call 52; ((with_reducible refine (HQ.out _).mono ?_); rintro e' w1 ⟨rfl, k1⟩)) | (go_at_call 11; ((with_reducible refine (encode_is D S P V N Y T Q X t 0 _ HT HE).mono ?_); rintro e' w2 ⟨rfl, k2⟩)) | (go_at_call 53; ((with_reducible refine (must_ok _).mono ?_); rintro e' w3 ⟨rfl, hw3⟩; subst hw3)))
        have hb : FrAt w3 w1.heap.size D S T P V Q N Y X := fr_k (heap_alloc_new w1 (.cells #[.int .i64 D, .int .i64 S, .bool T, .int .i64 P, .int .i64 V, .bool Q, .int .i64 N, .int .i64 Y, .string X] 23)) k2
        have hc : FrAt w3 w.heap.size 0 0 false 0 0 false 0 0 ⟨#[]⟩ := fr_k (fr_k (fr_k (heap_alloc_new w (.cells #[.int .i64 0, .int .i64 0, .bool false, .int .i64 0, .int .i64 0, .bool false, .int .i64 0, .int .i64 0, .string ⟨#[]⟩] 23)) k1) ((Keep.refl w1).alloc (.cells #[.int .i64 D, .int .i64 S, .bool T, .int .i64 P, .int .i64 V, .bool Q, .int .i64 N, .int .i64 Y, .string X] 23))) k2
        have K := Lib.hid (((((Keep.refl w).alloc (.cells #[.int .i64 0, .int .i64 0, .bool false, .int .i64 0, .int .i64 0, .bool false, .int .i64 0, .int .i64 0, .string ⟨#[]⟩] 23)).trans k1).alloc (.cells #[.int .i64 D, .int .i64 S, .bool T, .int .i64 P, .int .i64 V, .bool Q, .int .i64 N, .int .i64 Y, .string X] 23)).trans k2)
        clear k1 k2
        generalize w1.heap.size = B at *
        obtain ⟨C, hC⟩ : ∃ C, w.heap.size = C := ⟨_, rfl⟩
        have hCw : w.heap.size ≤ C := Nat.le_of_eq hC
        rw [hC] at hc ⊢
        clear hC
        go_wp2_with (first | (refine wpList_load_row rfl 23 _ rfl B rfl 23 #[.int .i64 D, .int .i64 S, .bool T, .int .i64 P, .int .i64 V, .bool Q, .int .i64 N, .int .i64 Y, .string X] (0, 0) _ hb Try.underlying23 rfl info_frame ?_) | (refine wpList_store_row rfl 23 _ _ rfl C rfl 23 _ #[.int .i64 D, .int .i64 S, .bool T, .int .i64 P, .int .i64 V, .bool Q, .int .i64 N, .int .i64 Y, .string X] rfl hc rfl (fr_one _ _ _ _ _ _ _ _ _) info_frame ?_))
        have hg := setRow_heap _ C _ #[.int .i64 D, .int .i64 S, .bool T, .int .i64 P, .int .i64 V, .bool Q, .int .i64 N, .int .i64 Y, .string X] _ _ hc
        exact bodyPost_ret (v := .agg #[.int .i64 D, .int .i64 S, .bool T, .int .i64 P, .int .i64 V, .bool Q, .int .i64 N, .int .i64 Y, .string X]) (results_cell_row Try.results38 _ _ C _ #[.int .i64 D, .int .i64 S, .bool T, .int .i64 P, .int .i64 V, .bool Q, .int .i64 N, .int .i64 Y, .string X] _ _ rfl hg Try.underlying23 rfl info_frame) rfl ⟨rfl, K.out.setRow hCw _⟩
      · obtain rfl : o = none := by rw [← h, ht, if_neg (fun c => he c.2)]
        have hne : (t.toList == s.toList) = false := by rw [beq_bytes]; exact decide_eq_false (fun c => he (bytes_ext c))
        clear h ht hok
        go_enter Try.func38, Try.ntmps38
        go_wp2_with (first | (go_at_call 52; ((with_reducible refine (HQ.out _).mono ?_); rintro e' w1 ⟨rfl, k1⟩)) | (go_at_call 11; ((with_reducible refine (encode_is D S P V N Y T Q X t 0 _ HT HE).mono ?_); rintro e' w2 ⟨rfl, k2⟩)) | (go_at_call 53; ((with_reducible refine (must_ok _).mono ?_); rintro e' w3 ⟨rfl, hw3⟩; subst hw3)))
        exact ⟨rfl, ⟨_, _, rfl⟩, (((((Keep.refl w).alloc _).trans k1).alloc _).trans k2)⟩
end Go.Proofs.Ytmgnmkdjphnaoaa
