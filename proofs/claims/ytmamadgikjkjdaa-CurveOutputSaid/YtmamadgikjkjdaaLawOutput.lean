/- CurveOutput's walk: frames of a conforming trace that leave in order, each at most Delay after its arrival, conform to Output. -/
import Derived.Test.YtmamadgikjkjdaaOutMath
import Derived.Test.YtmamadgikjkjdaaAppendRow
import Derived.Test.YtmamadgikjkjdaaLawFns2
namespace Go.Proofs.Ytmamadgikjkjdaa
open Go Go.RowKit

/-- A slice of uint32 that came in, by its parts. -/
def WaitAt (w : World) (a : Option Addr) (n : Nat) (zs : Nat → Int) : Prop := n ≤ 9223372036854775807 ∧ ∀ j, j < n → ∃ b off, a = some ⟨b, off, none⟩ ∧ w.cell? ⟨b, off + j, none⟩ = some (.int .u32 (zs j)) ∧ 0 ≤ zs j ∧ zs j ≤ 4294967295
theorem WaitAt.keep {w w' : World} {a : Option Addr} {n : Nat} {zs : Nat → Int} (h : WaitAt w a n zs) (k : Keep w w') : WaitAt w' a n zs := ⟨h.1, fun j hj => by obtain ⟨b, off, e, h1, h2⟩ := h.2 j hj; exact ⟨b, off, e, k.some h1, h2⟩⟩
theorem ownsLit0 (w : World) (o : Obj) (e : TypeId) (size : Nat) : ((w.alloc o).alloc (.cells #[] e)).ownsRow (w.heap.size + 1) e size (.slice (some ⟨w.heap.size + 1, 0, none⟩) 0 0) 0 [] := by
  have := World.ownsRow_lit (base := w.heap.size + 1) (size := size) (e := e) (w.alloc o) #[] 0 (by simp) (by unfold maxLen; omega) (by simp)
  simpa using this

set_option maxRecDepth 100000 in
set_option maxHeartbeats 8000000 in
theorem output_walk (B R : Int) (ga sa : Option Addr) (gl gc sl sc : Nat) (gs ss : List Int) (m L : Int) (a1 : Option Addr) (nw cw : Nat) (zs : Nat → Int) (w : World) (hD : Hid (DraftAt w (.agg #[.int .u32 B, .int .u32 R, .slice ga gl gc, .slice sa sl sc]) B R gs ss)) (X Y : Int) (HX : Hid (bOf B = X)) (HY : Hid (rOf R = Y)) (Hb : Hid (okBk X Y = true)) (l : List (Int × Int)) (Hl : Hid (traceD gs ss (min ss.length 30) = l)) (Hok : Hid (okT l = true)) (Hlow : Hid (∀ x ∈ l, x.1 ≤ 1966050)) (hlen30 : l.length ≤ 30) (hm : 0 ≤ m ∧ m ≤ 4294967295) (hL : 0 ≤ L ∧ L ≤ 65535) (hWt : Hid (WaitAt w a1 nw zs)) :
    Calls Try.prog 11 #[.agg #[.int .u32 B, .int .u32 R, .slice ga gl gc, .slice sa sl sc], .int .u32 m, .int .u16 L, .slice a1 nw cw] w (Res (.bool true) w) := by
  have bk := okBk_iff.1 Hb.out
  have d0 : (w.alloc (.cells #[.int .u32 B, .int .u32 R, .slice ga gl gc, .slice sa sl sc] 25)).cell? ⟨w.heap.size, 0, none⟩ = some (.int .u32 B) := by simp [go_sem]
  have d1 : (w.alloc (.cells #[.int .u32 B, .int .u32 R, .slice ga gl gc, .slice sa sl sc] 25)).cell? ⟨w.heap.size, 1, none⟩ = some (.int .u32 R) := by simp [go_sem]
  have d2 : (w.alloc (.cells #[.int .u32 B, .int .u32 R, .slice ga gl gc, .slice sa sl sc] 25)).cell? ⟨w.heap.size, 2, none⟩ = some (.slice ga gl gc) := by simp [go_sem]
  have d3 : (w.alloc (.cells #[.int .u32 B, .int .u32 R, .slice ga gl gc, .slice sa sl sc] 25)).cell? ⟨w.heap.size, 3, none⟩ = some (.slice sa sl sc) := by simp [go_sem]
  have KK := Lib.hid (Keep.alloc (Keep.refl w) (.cells #[.int .u32 B, .int .u32 R, .slice ga gl gc, .slice sa sl sc] 25))
  have HD := Lib.hid (hD.out.keep KK.out)
  clear hD
  obtain ⟨S, hS⟩ : ∃ S, min 2097152 (Y + m % 262144) = S := ⟨_, rfl⟩
  have bS : 1 ≤ S ∧ S ≤ 2097152 ∧ Y ≤ S := by omega
  have HSv : Hid (okSv S L = true) := Lib.hid (okSv_of (by omega))
  obtain ⟨d, hd⟩ : ∃ d, L + ceilD (X * 1048576) S = d := ⟨_, rfl⟩
  have H1 : Hid (delayR [(X, Y)] S L = (d, 0)) := Lib.hid (by rw [delay_one Hb.out HSv.out bS.2.2, hd])
  have bd : 0 ≤ d ∧ d ≤ 1099511693311 := by
    have h1 := slowD_le (B := X) bS.1 bk.2.1
    have h2 := ceilD_nonneg (n := X * 1048576) (d := S) (by omega) (by omega)
    omega
  obtain ⟨q, hq⟩ : ∃ q, ceilD (Y * d) 1048576 = q := ⟨_, rfl⟩
  have HQ := Lib.hid hq
  have HO := Lib.hid (output_one Hb.out H1.out)
  obtain ⟨O0, hO0⟩ : ∃ O, X + q = O := ⟨_, rfl⟩
  rw [hq, hO0] at HO
  have HO0 := Lib.hid hO0
  clear hd hq hO0
  cases ho : okBk O0 Y with
  | false =>
    have H2 : Hid (outputR X Y S L = ((0, 0), 6)) := Lib.hid (by rw [HO.out, ho]; rfl)
    clear HO ho
    go_enter Try.func11, Try.ntmps11
    go_wp2_with fail
    go_at_call 32
    refine (works4_yes _).mono ?_
    rintro _ w1 ⟨rfl, k1⟩
    have d0 := k1.some (by first | exact d0 | exact cell_alloc_old _ d0 | exact cell_alloc_old _ (cell_alloc_old _ d0) | exact cell_alloc_old _ (cell_alloc_old _ (cell_alloc_old _ d0)))
    have d1 := k1.some (by first | exact d1 | exact cell_alloc_old _ d1 | exact cell_alloc_old _ (cell_alloc_old _ d1) | exact cell_alloc_old _ (cell_alloc_old _ (cell_alloc_old _ d1)))
    have d2 := k1.some (by first | exact d2 | exact cell_alloc_old _ d2 | exact cell_alloc_old _ (cell_alloc_old _ d2) | exact cell_alloc_old _ (cell_alloc_old _ (cell_alloc_old _ d2)))
    have d3 := k1.some (by first | exact d3 | exact cell_alloc_old _ d3 | exact cell_alloc_old _ (cell_alloc_old _ d3) | exact cell_alloc_old _ (cell_alloc_old _ (cell_alloc_old _ d3)))
    have HD := Lib.hid (by first | exact HD.out.keep k1 | exact HD.out.keep ((Keep.alloc (Keep.refl _) _).trans k1) | exact HD.out.keep (((Keep.alloc (Keep.refl _) _).alloc _).trans k1) | exact HD.out.keep ((((Keep.alloc (Keep.refl _) _).alloc _).alloc _).trans k1))
    have KK := Lib.hid (by first | exact KK.out.trans k1 | exact (KK.out.alloc _).trans k1 | exact ((KK.out.alloc _).alloc _).trans k1 | exact (((KK.out.alloc _).alloc _).alloc _).trans k1)
    have hd0 := cellBlock d0
    go_wp2_with fail
    go_at_call 16
    refine (draftBucket_is _ B R gs ss _ HD X Y HX HY).mono ?_
    rintro _ w2 ⟨rfl, k2⟩
    have d0 := k2.some (by first | exact d0 | exact cell_alloc_old _ d0 | exact cell_alloc_old _ (cell_alloc_old _ d0) | exact cell_alloc_old _ (cell_alloc_old _ (cell_alloc_old _ d0)))
    have d1 := k2.some (by first | exact d1 | exact cell_alloc_old _ d1 | exact cell_alloc_old _ (cell_alloc_old _ d1) | exact cell_alloc_old _ (cell_alloc_old _ (cell_alloc_old _ d1)))
    have d2 := k2.some (by first | exact d2 | exact cell_alloc_old _ d2 | exact cell_alloc_old _ (cell_alloc_old _ d2) | exact cell_alloc_old _ (cell_alloc_old _ (cell_alloc_old _ d2)))
    have d3 := k2.some (by first | exact d3 | exact cell_alloc_old _ d3 | exact cell_alloc_old _ (cell_alloc_old _ d3) | exact cell_alloc_old _ (cell_alloc_old _ (cell_alloc_old _ d3)))
    have HD := Lib.hid (by first | exact HD.out.keep k2 | exact HD.out.keep ((Keep.alloc (Keep.refl _) _).trans k2) | exact HD.out.keep (((Keep.alloc (Keep.refl _) _).alloc _).trans k2) | exact HD.out.keep ((((Keep.alloc (Keep.refl _) _).alloc _).alloc _).trans k2))
    have KK := Lib.hid (by first | exact KK.out.trans k2 | exact (KK.out.alloc _).trans k2 | exact ((KK.out.alloc _).alloc _).trans k2 | exact (((KK.out.alloc _).alloc _).alloc _).trans k2)
    have hd0 := cellBlock d0
    go_wp2_with fail
    go_at_call 33
    refine (delay_is _ 1 1 [(X, Y)] S L d 0 _ (Lib.hid (rowAll _ [(X, Y)] _ _ _ 1 (by simp) rfl rfl (by simp))) H1).mono ?_
    rintro _ w3 ⟨rfl, k3⟩
    have b0 : w3.cell? ⟨w2.heap.size, 0, none⟩ = some (.int .i64 X) := k3.some (by first | (simp [go_sem]; done) | exact cell_alloc_old _ (by simp [go_sem]) | exact cell_alloc_old _ (cell_alloc_old _ (by simp [go_sem])))
    have b1 : w3.cell? ⟨w2.heap.size, 1, none⟩ = some (.int .i64 Y) := k3.some (by first | (simp [go_sem]; done) | exact cell_alloc_old _ (by simp [go_sem]) | exact cell_alloc_old _ (cell_alloc_old _ (by simp [go_sem])))
    have s0 : w3.cell? ⟨w2.heap.size + 1, 0, none⟩ = some (.int .i64 S) := k3.some (by first | (simp [go_sem]; done) | exact cell_alloc_old _ (by simp [go_sem]) | exact cell_alloc_old _ (cell_alloc_old _ (by simp [go_sem])))
    have s1 : w3.cell? ⟨w2.heap.size + 1, 1, none⟩ = some (.int .i64 L) := k3.some (by first | (simp [go_sem]; done) | exact cell_alloc_old _ (by simp [go_sem]) | exact cell_alloc_old _ (cell_alloc_old _ (by simp [go_sem])))
    have d0 := k3.some (by first | exact d0 | exact cell_alloc_old _ d0 | exact cell_alloc_old _ (cell_alloc_old _ d0) | exact cell_alloc_old _ (cell_alloc_old _ (cell_alloc_old _ d0)))
    have d1 := k3.some (by first | exact d1 | exact cell_alloc_old _ d1 | exact cell_alloc_old _ (cell_alloc_old _ d1) | exact cell_alloc_old _ (cell_alloc_old _ (cell_alloc_old _ d1)))
    have d2 := k3.some (by first | exact d2 | exact cell_alloc_old _ d2 | exact cell_alloc_old _ (cell_alloc_old _ d2) | exact cell_alloc_old _ (cell_alloc_old _ (cell_alloc_old _ d2)))
    have d3 := k3.some (by first | exact d3 | exact cell_alloc_old _ d3 | exact cell_alloc_old _ (cell_alloc_old _ d3) | exact cell_alloc_old _ (cell_alloc_old _ (cell_alloc_old _ d3)))
    have HD := Lib.hid (by first | exact HD.out.keep k3 | exact HD.out.keep ((Keep.alloc (Keep.refl _) _).trans k3) | exact HD.out.keep (((Keep.alloc (Keep.refl _) _).alloc _).trans k3) | exact HD.out.keep ((((Keep.alloc (Keep.refl _) _).alloc _).alloc _).trans k3))
    have KK := Lib.hid (by first | exact KK.out.trans k3 | exact (KK.out.alloc _).trans k3 | exact ((KK.out.alloc _).alloc _).trans k3 | exact (((KK.out.alloc _).alloc _).alloc _).trans k3)
    have hd0 := cellBlock d0
    have hb0 := cellBlock b0
    have hs0 := cellBlock s0
    go_wp2_with fail
    go_at_call 37
    refine (output_is X Y S L 0 0 6 _ H2).mono ?_
    rintro _ w4 ⟨rfl, k4⟩
    have d0 := k4.some (by first | exact d0 | exact cell_alloc_old _ d0 | exact cell_alloc_old _ (cell_alloc_old _ d0) | exact cell_alloc_old _ (cell_alloc_old _ (cell_alloc_old _ d0)))
    have d1 := k4.some (by first | exact d1 | exact cell_alloc_old _ d1 | exact cell_alloc_old _ (cell_alloc_old _ d1) | exact cell_alloc_old _ (cell_alloc_old _ (cell_alloc_old _ d1)))
    have d2 := k4.some (by first | exact d2 | exact cell_alloc_old _ d2 | exact cell_alloc_old _ (cell_alloc_old _ d2) | exact cell_alloc_old _ (cell_alloc_old _ (cell_alloc_old _ d2)))
    have d3 := k4.some (by first | exact d3 | exact cell_alloc_old _ d3 | exact cell_alloc_old _ (cell_alloc_old _ d3) | exact cell_alloc_old _ (cell_alloc_old _ (cell_alloc_old _ d3)))
    have b0 := k4.some (by first | exact b0 | exact cell_alloc_old _ b0 | exact cell_alloc_old _ (cell_alloc_old _ b0) | exact cell_alloc_old _ (cell_alloc_old _ (cell_alloc_old _ b0)))
    have b1 := k4.some (by first | exact b1 | exact cell_alloc_old _ b1 | exact cell_alloc_old _ (cell_alloc_old _ b1) | exact cell_alloc_old _ (cell_alloc_old _ (cell_alloc_old _ b1)))
    have s0 := k4.some (by first | exact s0 | exact cell_alloc_old _ s0 | exact cell_alloc_old _ (cell_alloc_old _ s0) | exact cell_alloc_old _ (cell_alloc_old _ (cell_alloc_old _ s0)))
    have s1 := k4.some (by first | exact s1 | exact cell_alloc_old _ s1 | exact cell_alloc_old _ (cell_alloc_old _ s1) | exact cell_alloc_old _ (cell_alloc_old _ (cell_alloc_old _ s1)))
    have HD := Lib.hid (by first | exact HD.out.keep k4 | exact HD.out.keep ((Keep.alloc (Keep.refl _) _).trans k4) | exact HD.out.keep (((Keep.alloc (Keep.refl _) _).alloc _).trans k4) | exact HD.out.keep ((((Keep.alloc (Keep.refl _) _).alloc _).alloc _).trans k4))
    have KK := Lib.hid (by first | exact KK.out.trans k4 | exact (KK.out.alloc _).trans k4 | exact ((KK.out.alloc _).alloc _).trans k4 | exact (((KK.out.alloc _).alloc _).alloc _).trans k4)
    have hd0 := cellBlock d0
    have hb0 := cellBlock b0
    have hs0 := cellBlock s0
    go_wp2
    go_ret
    exact ⟨rfl, by first | exact KK.out | exact KK.out.alloc _⟩
  | true =>
    have H2 : Hid (outputR X Y S L = ((O0, Y), 0)) := Lib.hid (by rw [HO.out, ho]; rfl)
    have HOK := Lib.hid ho
    clear HO ho
    have hcl : (confL X Y l).length ≤ 30 := Nat.le_trans (confL_sublist X Y l).length_le hlen30
    have hlow : ∀ k, k < (confL X Y l).length → atL (confL X Y l) k ≤ 1966050 := confL_low Hlow.out
    obtain ⟨c, hc⟩ : ∃ c, confL X Y l = c := ⟨_, rfl⟩
    have hgap : ∀ i j : Nat, i ≤ j → j < c.length → gapB X Y (atL c) (szL c) i j = true := fun i j hij hj => by rw [← hc] at hj ⊢; exact confL_gap hj hij
    have hok : okT c = true := by rw [← hc]; exact okT_confL Hok.out
    rw [hc] at hcl hlow
    have HCC := Lib.hid hc
    have HG := Lib.hid hgap
    have HK := Lib.hid (okT_iff.1 hok)
    have HT := Lib.hid hok
    have HLO := Lib.hid hlow
    obtain ⟨v, hv⟩ : ∃ v : Nat → Int, (fun k => if k < nw then zs k % (d + 1) else 0) = v := ⟨_, rfl⟩
    have hv1 : ∀ k, k < nw → v k = zs k % (d + 1) := fun k h => by rw [← hv]; simp [h]
    have hv2 : ∀ k, nw ≤ k → v k = 0 := fun k h => by rw [← hv]; simp; omega
    have hvb : ∀ k, 0 ≤ v k ∧ v k ≤ d ∧ v k ≤ 4294967295 := fun k => by
      rcases Nat.lt_or_ge k nw with h | h
      · obtain ⟨_, _, _, _, h2, h3⟩ := hWt.out.2 k h
        rw [hv1 k h]
        have e1 := Int.emod_nonneg (zs k) (show d + 1 ≠ 0 by omega)
        have e2 := Int.emod_lt_of_pos (zs k) (show 0 < d + 1 by omega)
        have e4 := Int.mul_nonneg (show 0 ≤ d + 1 by omega) (Int.ediv_nonneg h2 (show 0 ≤ d + 1 by omega))
        have e5 : zs k % (d + 1) + (d + 1) * (zs k / (d + 1)) = zs k := by first | exact Int.emod_add_mul_ediv _ _ | exact Int.emod_add_ediv _ _
        have e3 : zs k % (d + 1) ≤ zs k := by omega
        omega
      · rw [hv2 k h]; omega
    have HV1 := Lib.hid hv1
    have HV2 := Lib.hid hv2
    have HVB := Lib.hid hvb
    have HWT := Lib.hid (hWt.out.keep KK.out)
    clear hc hgap hok hlow hv hv1 hv2 hvb hWt Hlow Hok
    obtain ⟨i0, hi0, hz0, hz1, hz2⟩ := info_parts infoArrival
    go_enter Try.func11, Try.ntmps11
    go_wp2_with fail
    go_at_call 32
    refine (works4_yes _).mono ?_
    rintro _ w1 ⟨rfl, k1⟩
    have d0 := k1.some (by first | exact d0 | exact cell_alloc_old _ d0 | exact cell_alloc_old _ (cell_alloc_old _ d0) | exact cell_alloc_old _ (cell_alloc_old _ (cell_alloc_old _ d0)))
    have d1 := k1.some (by first | exact d1 | exact cell_alloc_old _ d1 | exact cell_alloc_old _ (cell_alloc_old _ d1) | exact cell_alloc_old _ (cell_alloc_old _ (cell_alloc_old _ d1)))
    have d2 := k1.some (by first | exact d2 | exact cell_alloc_old _ d2 | exact cell_alloc_old _ (cell_alloc_old _ d2) | exact cell_alloc_old _ (cell_alloc_old _ (cell_alloc_old _ d2)))
    have d3 := k1.some (by first | exact d3 | exact cell_alloc_old _ d3 | exact cell_alloc_old _ (cell_alloc_old _ d3) | exact cell_alloc_old _ (cell_alloc_old _ (cell_alloc_old _ d3)))
    have HD := Lib.hid (by first | exact HD.out.keep k1 | exact HD.out.keep ((Keep.alloc (Keep.refl _) _).trans k1) | exact HD.out.keep (((Keep.alloc (Keep.refl _) _).alloc _).trans k1) | exact HD.out.keep ((((Keep.alloc (Keep.refl _) _).alloc _).alloc _).trans k1))
    have HWT := Lib.hid (by first | exact HWT.out.keep k1 | exact HWT.out.keep ((Keep.alloc (Keep.refl _) _).trans k1) | exact HWT.out.keep (((Keep.alloc (Keep.refl _) _).alloc _).trans k1) | exact HWT.out.keep ((((Keep.alloc (Keep.refl _) _).alloc _).alloc _).trans k1))
    have KK := Lib.hid (by first | exact KK.out.trans k1 | exact (KK.out.alloc _).trans k1 | exact ((KK.out.alloc _).alloc _).trans k1 | exact (((KK.out.alloc _).alloc _).alloc _).trans k1)
    have hd0 := cellBlock d0
    go_wp2_with fail
    go_at_call 16
    refine (draftBucket_is _ B R gs ss _ HD X Y HX HY).mono ?_
    rintro _ w2 ⟨rfl, k2⟩
    have d0 := k2.some (by first | exact d0 | exact cell_alloc_old _ d0 | exact cell_alloc_old _ (cell_alloc_old _ d0) | exact cell_alloc_old _ (cell_alloc_old _ (cell_alloc_old _ d0)))
    have d1 := k2.some (by first | exact d1 | exact cell_alloc_old _ d1 | exact cell_alloc_old _ (cell_alloc_old _ d1) | exact cell_alloc_old _ (cell_alloc_old _ (cell_alloc_old _ d1)))
    have d2 := k2.some (by first | exact d2 | exact cell_alloc_old _ d2 | exact cell_alloc_old _ (cell_alloc_old _ d2) | exact cell_alloc_old _ (cell_alloc_old _ (cell_alloc_old _ d2)))
    have d3 := k2.some (by first | exact d3 | exact cell_alloc_old _ d3 | exact cell_alloc_old _ (cell_alloc_old _ d3) | exact cell_alloc_old _ (cell_alloc_old _ (cell_alloc_old _ d3)))
    have HD := Lib.hid (by first | exact HD.out.keep k2 | exact HD.out.keep ((Keep.alloc (Keep.refl _) _).trans k2) | exact HD.out.keep (((Keep.alloc (Keep.refl _) _).alloc _).trans k2) | exact HD.out.keep ((((Keep.alloc (Keep.refl _) _).alloc _).alloc _).trans k2))
    have HWT := Lib.hid (by first | exact HWT.out.keep k2 | exact HWT.out.keep ((Keep.alloc (Keep.refl _) _).trans k2) | exact HWT.out.keep (((Keep.alloc (Keep.refl _) _).alloc _).trans k2) | exact HWT.out.keep ((((Keep.alloc (Keep.refl _) _).alloc _).alloc _).trans k2))
    have KK := Lib.hid (by first | exact KK.out.trans k2 | exact (KK.out.alloc _).trans k2 | exact ((KK.out.alloc _).alloc _).trans k2 | exact (((KK.out.alloc _).alloc _).alloc _).trans k2)
    have hd0 := cellBlock d0
    go_wp2_with fail
    go_at_call 33
    refine (delay_is _ 1 1 [(X, Y)] S L d 0 _ (Lib.hid (rowAll _ [(X, Y)] _ _ _ 1 (by simp) rfl rfl (by simp))) H1).mono ?_
    rintro _ w3 ⟨rfl, k3⟩
    have b0 : w3.cell? ⟨w2.heap.size, 0, none⟩ = some (.int .i64 X) := k3.some (by first | (simp [go_sem]; done) | exact cell_alloc_old _ (by simp [go_sem]) | exact cell_alloc_old _ (cell_alloc_old _ (by simp [go_sem])))
    have b1 : w3.cell? ⟨w2.heap.size, 1, none⟩ = some (.int .i64 Y) := k3.some (by first | (simp [go_sem]; done) | exact cell_alloc_old _ (by simp [go_sem]) | exact cell_alloc_old _ (cell_alloc_old _ (by simp [go_sem])))
    have s0 : w3.cell? ⟨w2.heap.size + 1, 0, none⟩ = some (.int .i64 S) := k3.some (by first | (simp [go_sem]; done) | exact cell_alloc_old _ (by simp [go_sem]) | exact cell_alloc_old _ (cell_alloc_old _ (by simp [go_sem])))
    have s1 : w3.cell? ⟨w2.heap.size + 1, 1, none⟩ = some (.int .i64 L) := k3.some (by first | (simp [go_sem]; done) | exact cell_alloc_old _ (by simp [go_sem]) | exact cell_alloc_old _ (cell_alloc_old _ (by simp [go_sem])))
    have d0 := k3.some (by first | exact d0 | exact cell_alloc_old _ d0 | exact cell_alloc_old _ (cell_alloc_old _ d0) | exact cell_alloc_old _ (cell_alloc_old _ (cell_alloc_old _ d0)))
    have d1 := k3.some (by first | exact d1 | exact cell_alloc_old _ d1 | exact cell_alloc_old _ (cell_alloc_old _ d1) | exact cell_alloc_old _ (cell_alloc_old _ (cell_alloc_old _ d1)))
    have d2 := k3.some (by first | exact d2 | exact cell_alloc_old _ d2 | exact cell_alloc_old _ (cell_alloc_old _ d2) | exact cell_alloc_old _ (cell_alloc_old _ (cell_alloc_old _ d2)))
    have d3 := k3.some (by first | exact d3 | exact cell_alloc_old _ d3 | exact cell_alloc_old _ (cell_alloc_old _ d3) | exact cell_alloc_old _ (cell_alloc_old _ (cell_alloc_old _ d3)))
    have HD := Lib.hid (by first | exact HD.out.keep k3 | exact HD.out.keep ((Keep.alloc (Keep.refl _) _).trans k3) | exact HD.out.keep (((Keep.alloc (Keep.refl _) _).alloc _).trans k3) | exact HD.out.keep ((((Keep.alloc (Keep.refl _) _).alloc _).alloc _).trans k3))
    have HWT := Lib.hid (by first | exact HWT.out.keep k3 | exact HWT.out.keep ((Keep.alloc (Keep.refl _) _).trans k3) | exact HWT.out.keep (((Keep.alloc (Keep.refl _) _).alloc _).trans k3) | exact HWT.out.keep ((((Keep.alloc (Keep.refl _) _).alloc _).alloc _).trans k3))
    have KK := Lib.hid (by first | exact KK.out.trans k3 | exact (KK.out.alloc _).trans k3 | exact ((KK.out.alloc _).alloc _).trans k3 | exact (((KK.out.alloc _).alloc _).alloc _).trans k3)
    have hd0 := cellBlock d0
    have hb0 := cellBlock b0
    have hs0 := cellBlock s0
    go_wp2_with fail
    go_at_call 37
    refine (output_is X Y S L O0 Y 0 _ H2).mono ?_
    rintro _ w4 ⟨rfl, k4⟩
    have d0 := k4.some (by first | exact d0 | exact cell_alloc_old _ d0 | exact cell_alloc_old _ (cell_alloc_old _ d0) | exact cell_alloc_old _ (cell_alloc_old _ (cell_alloc_old _ d0)))
    have d1 := k4.some (by first | exact d1 | exact cell_alloc_old _ d1 | exact cell_alloc_old _ (cell_alloc_old _ d1) | exact cell_alloc_old _ (cell_alloc_old _ (cell_alloc_old _ d1)))
    have d2 := k4.some (by first | exact d2 | exact cell_alloc_old _ d2 | exact cell_alloc_old _ (cell_alloc_old _ d2) | exact cell_alloc_old _ (cell_alloc_old _ (cell_alloc_old _ d2)))
    have d3 := k4.some (by first | exact d3 | exact cell_alloc_old _ d3 | exact cell_alloc_old _ (cell_alloc_old _ d3) | exact cell_alloc_old _ (cell_alloc_old _ (cell_alloc_old _ d3)))
    have b0 := k4.some (by first | exact b0 | exact cell_alloc_old _ b0 | exact cell_alloc_old _ (cell_alloc_old _ b0) | exact cell_alloc_old _ (cell_alloc_old _ (cell_alloc_old _ b0)))
    have b1 := k4.some (by first | exact b1 | exact cell_alloc_old _ b1 | exact cell_alloc_old _ (cell_alloc_old _ b1) | exact cell_alloc_old _ (cell_alloc_old _ (cell_alloc_old _ b1)))
    have s0 := k4.some (by first | exact s0 | exact cell_alloc_old _ s0 | exact cell_alloc_old _ (cell_alloc_old _ s0) | exact cell_alloc_old _ (cell_alloc_old _ (cell_alloc_old _ s0)))
    have s1 := k4.some (by first | exact s1 | exact cell_alloc_old _ s1 | exact cell_alloc_old _ (cell_alloc_old _ s1) | exact cell_alloc_old _ (cell_alloc_old _ (cell_alloc_old _ s1)))
    have HD := Lib.hid (by first | exact HD.out.keep k4 | exact HD.out.keep ((Keep.alloc (Keep.refl _) _).trans k4) | exact HD.out.keep (((Keep.alloc (Keep.refl _) _).alloc _).trans k4) | exact HD.out.keep ((((Keep.alloc (Keep.refl _) _).alloc _).alloc _).trans k4))
    have HWT := Lib.hid (by first | exact HWT.out.keep k4 | exact HWT.out.keep ((Keep.alloc (Keep.refl _) _).trans k4) | exact HWT.out.keep (((Keep.alloc (Keep.refl _) _).alloc _).trans k4) | exact HWT.out.keep ((((Keep.alloc (Keep.refl _) _).alloc _).alloc _).trans k4))
    have KK := Lib.hid (by first | exact KK.out.trans k4 | exact (KK.out.alloc _).trans k4 | exact ((KK.out.alloc _).alloc _).trans k4 | exact (((KK.out.alloc _).alloc _).alloc _).trans k4)
    have hd0 := cellBlock d0
    have hb0 := cellBlock b0
    have hs0 := cellBlock s0
    have kb := (Keep.alloc (Keep.refl w4) (.cells #[.int .i64 O0, .int .i64 Y] 30)).alloc (.cells #[] 35)
    have HDq := Lib.hid (HD.out.keep kb)
    have d0 := cell_alloc_old (.cells #[] 35) (cell_alloc_old (.cells #[.int .i64 O0, .int .i64 Y] 30) d0)
    have d1 := cell_alloc_old (.cells #[] 35) (cell_alloc_old (.cells #[.int .i64 O0, .int .i64 Y] 30) d1)
    have d2 := cell_alloc_old (.cells #[] 35) (cell_alloc_old (.cells #[.int .i64 O0, .int .i64 Y] 30) d2)
    have d3 := cell_alloc_old (.cells #[] 35) (cell_alloc_old (.cells #[.int .i64 O0, .int .i64 Y] 30) d3)
    go_wp2_with (first | (go_at_call 17; ((with_reducible refine (conf_is _ B R gs ss _ HDq X Y HX HY l Hl).mono ?_); rintro _ w5 ⟨v5, rfl, hr, k5, -⟩; rw [HCC.out] at hr)) | (at_builtin; refine wpList_appendL rfl _ _ 32 rfl (w4.heap.size + 1) 35 i0 (.agg #[.int .i64 0, .int .i64 0]) Try.underlying32 hi0 hz0 hz1 hz2 rfl _ 0 [] rfl (ownsKeep (ownsLit0 w4 (.cells #[.int .i64 O0, .int .i64 Y] 30) 35 2) k5) _ c rfl hr (by omega) (w4.alloc (.cells #[.int .i64 O0, .int .i64 Y] 30)) ((Keep.alloc (Keep.refl _) _).trans k5) (by simp) ?_; intro v6 w6 hown6 hk6))
    have p0 : (w4.alloc (.cells #[.int .i64 O0, .int .i64 Y] 30)).cell? ⟨w4.heap.size, 0, none⟩ = some (.int .i64 O0) := by simp [go_sem]
    have p1 : (w4.alloc (.cells #[.int .i64 O0, .int .i64 Y] 30)).cell? ⟨w4.heap.size, 1, none⟩ = some (.int .i64 Y) := by simp [go_sem]
    have KK := Lib.hid (KK.out.alloc (.cells #[.int .i64 O0, .int .i64 Y] 30))
    have HWT := Lib.hid (HWT.out.keep (Keep.alloc (Keep.refl w4) (.cells #[.int .i64 O0, .int .i64 Y] 30)))
    rw [Nat.zero_add, List.nil_append] at hown6
    obtain ⟨n, hn⟩ : ∃ n, c.length = n := ⟨_, rfl⟩
    have HL := Lib.hid hn
    rw [hn] at hcl hown6
    have hro := rowAtOwns hown6
    obtain ⟨a6, c6, rfl, -⟩ := hro.form
    rw [hn] at hown6 ⊢
    obtain ⟨B13, hB13⟩ : ∃ B13, w4.heap.size = B13 := ⟨_, rfl⟩
    obtain ⟨WB, hWB⟩ : ∃ WB, w4.alloc (.cells #[.int .i64 O0, .int .i64 Y] 30) = WB := ⟨_, rfl⟩
    have hWs : WB.heap.size = B13 + 1 := by rw [← hWB, ← hB13]; simp
    rw [hB13] at p0 p1 hown6
    try rw [hB13]
    rw [hWB] at p0 p1 KK HWT hk6
    have HOW := Lib.hid hown6
    have HK6 := Lib.hid hk6
    clear hro hr kb HD HDq d0 d1 d2 d3 b0 b1 s0 s1 hWB hB13 hn hown6 hk6 k5 H1 H2
    have hlb := fun k h => lastO_bd (a := atL c) (v := v) (n := n) (d := 4294967295) (fun k h => (okSteps_bd HK.out.2 k (by rw [HL.out]; exact h)).1) (fun j h i hi => okSteps_mono HK.out.2 j (by rw [HL.out]; exact h) i hi) (fun k _ => ⟨(HVB.out k).1, (HVB.out k).2.2⟩) k h
    have HLB := Lib.hid hlb
    clear hlb
    go_loopw [16, 17] (fun s16 s17 wr => ∃ i : Nat, i ≤ n ∧ i ≤ nw ∧ s17 = .int .i64 (i : Int) ∧ s16 = .int .i64 (lastO (atL c) v i) ∧ Hid (wr.ownsRow (B13 + 1) 35 2 (.slice a6 n c6) n (cellsL (outL c v i)) ∧ Keep WB wr)) (fun _ i _ => n - (intOf i).toNat)
    case atStart => exact ⟨0, by omega, by omega, rfl, rfl, Lib.hid ⟨by rw [outL_zero]; exact HOW.out, HK6.out⟩⟩
    case round =>
      obtain ⟨i, hi, hiw, rfl, rfl, HR⟩ := hrel
      by_cases hlt : i < n
      · by_cases hltw : i < nw
        · have hlt' : (i : Int) < (n : Int) := by omega
          have hltw' : (i : Int) < (nw : Int) := by omega
          obtain ⟨g, cap, eg, hg1, hg2⟩ := HR.out.1.form (by omega)
          cases eg
          obtain ⟨b1, o1, rfl, cz, hz3, hz4⟩ := HWT.out.2 i hltw
          have cz := HR.out.2.some cz
          obtain ⟨z, hz⟩ : ∃ z, zs i = z := ⟨_, rfl⟩
          have hvi := HV1.out i hltw
          rw [hz] at cz hz3 hz4 hvi
          have hat := outL_at c v i (k := i) (by rw [HL.out]; exact hlt)
          rw [if_neg (by omega)] at hat
          have cx : wr.cell? ⟨g, i * 2, none⟩ = some (.int .i64 (atL c i)) := by rw [HR.out.1.cellAt (i * 2) (by omega), (cellsL_at (outL c v i) i (by rw [outL_len, HL.out]; exact hlt)).1, hat.1]
          have fz : wr.frozen? ⟨g, i * 2, none⟩ = false := HR.out.1.frozenAt _
          have eS : lastO (atL c) v (i + 1) = max (lastO (atL c) v i) (atL c i + v i) := rfl
          have hb1 := HLB.out i hlt
          have hlo := HLO.out i (by rw [HL.out]; exact hlt)
          have bx := okSteps_bd HK.out.2 i (by rw [HL.out]; exact hlt)
          obtain ⟨x, hx⟩ : ∃ x, atL c i = x := ⟨_, rfl⟩
          obtain ⟨la, hla⟩ : ∃ la, lastO (atL c) v i = la := ⟨_, rfl⟩
          obtain ⟨la', hla'⟩ : ∃ la', lastO (atL c) v (i + 1) = la' := ⟨_, rfl⟩
          obtain ⟨vi, hvi'⟩ : ∃ vi, v i = vi := ⟨_, rfl⟩
          have bvi := HVB.out i
          rw [hvi'] at hvi bvi eS
          rw [hx] at cx eS hlo bx hb1
          rw [hla'] at eS hb1
          rw [hla] at eS ⊢
          have HE := Lib.hid eS.symm
          have HLA := Lib.hid hla'
          have HVI : Hid (z.tmod (d + 1) = vi) := Lib.hid (by rw [Int.tmod_eq_emod_of_nonneg hz3, hvi])
          have hd0 : ¬ d + 1 = 0 := by omega
          have hd1 : (d + 1 == 0) = false := by simp; omega
          have hgw := cellBlock cx
          clear eS hx hla hla' hvi hvi' hz hat hb1
          go_upto_region 14 with fail
          refine region_lin (W0 := wr) (listF [fun v ww => v = .int .i64 la, fun v ww => v = .slice (some ⟨g, 0, none⟩) n c6, fun v ww => v = .int .i64 ((i : Int)), fun v ww => v = .pointer (some ⟨g, i * 2, none⟩), fun v ww => v = .pointer (some ⟨g, i * 2, none⟩), fun v ww => v = .int .i64 x, fun v ww => v = .slice (some ⟨b1, o1, none⟩) nw cw, fun v ww => v = .int .i64 ((i : Int)), fun v ww => v = .pointer (some ⟨b1, o1 + i, none⟩), fun v ww => v = .int .u32 z, fun v ww => v = .int .i64 z, fun v ww => v = .int .i64 d, fun v ww => v = .int .i64 (d + 1), fun v ww => v = .int .i64 vi, fun v ww => v = .int .i64 (x + vi), fun v ww => v = .int .i64 la', fun v ww => v = .int .i64 la']) (listF_stable _ ⟨fun _ _ _ _ h => h, fun _ _ _ _ h => h, fun _ _ _ _ h => h, fun _ _ _ _ h => h, fun _ _ _ _ h => h, fun _ _ _ _ h => h, fun _ _ _ _ h => h, fun _ _ _ _ h => h, fun _ _ _ _ h => h, fun _ _ _ _ h => h, fun _ _ _ _ h => h, fun _ _ _ _ h => h, fun _ _ _ _ h => h, fun _ _ _ _ h => h, fun _ _ _ _ h => h, fun _ _ _ _ h => h, fun _ _ _ _ h => h, trivial⟩) (by kernel_rfl) (by kernel_rfl) (by kernel_rfl) (by kernel_rfl) (Keep.refl _) ?done14 ?steps14
          case done14 =>
            intro T14 wz14 hJ
            obtain ⟨x0, t0, f0⟩ := hJ.fact 0 76 (by decide) (by kernel_rfl)
            obtain rfl : x0 = .int .i64 la := f0
            obtain ⟨x1, t1, f1⟩ := hJ.fact 1 77 (by decide) (by kernel_rfl)
            obtain rfl : x1 = .slice (some ⟨g, 0, none⟩) n c6 := f1
            obtain ⟨x2, t2, f2⟩ := hJ.fact 2 78 (by decide) (by kernel_rfl)
            obtain rfl : x2 = .int .i64 ((i : Int)) := f2
            obtain ⟨x3, t3, f3⟩ := hJ.fact 3 79 (by decide) (by kernel_rfl)
            obtain rfl : x3 = .pointer (some ⟨g, i * 2, none⟩) := f3
            obtain ⟨x4, t4, f4⟩ := hJ.fact 4 80 (by decide) (by kernel_rfl)
            obtain rfl : x4 = .pointer (some ⟨g, i * 2, none⟩) := f4
            obtain ⟨x5, t5, f5⟩ := hJ.fact 5 81 (by decide) (by kernel_rfl)
            obtain rfl : x5 = .int .i64 x := f5
            obtain ⟨x6, t6, f6⟩ := hJ.fact 6 82 (by decide) (by kernel_rfl)
            obtain rfl : x6 = .slice (some ⟨b1, o1, none⟩) nw cw := f6
            obtain ⟨x7, t7, f7⟩ := hJ.fact 7 83 (by decide) (by kernel_rfl)
            obtain rfl : x7 = .int .i64 ((i : Int)) := f7
            obtain ⟨x8, t8, f8⟩ := hJ.fact 8 84 (by decide) (by kernel_rfl)
            obtain rfl : x8 = .pointer (some ⟨b1, o1 + i, none⟩) := f8
            obtain ⟨x9, t9, f9⟩ := hJ.fact 9 85 (by decide) (by kernel_rfl)
            obtain rfl : x9 = .int .u32 z := f9
            obtain ⟨x10, t10, f10⟩ := hJ.fact 10 86 (by decide) (by kernel_rfl)
            obtain rfl : x10 = .int .i64 z := f10
            obtain ⟨x11, t11, f11⟩ := hJ.fact 11 87 (by decide) (by kernel_rfl)
            obtain rfl : x11 = .int .i64 d := f11
            obtain ⟨x12, t12, f12⟩ := hJ.fact 12 88 (by decide) (by kernel_rfl)
            obtain rfl : x12 = .int .i64 (d + 1) := f12
            obtain ⟨x13, t13, f13⟩ := hJ.fact 13 89 (by decide) (by kernel_rfl)
            obtain rfl : x13 = .int .i64 vi := f13
            obtain ⟨x14, t14, f14⟩ := hJ.fact 14 90 (by decide) (by kernel_rfl)
            obtain rfl : x14 = .int .i64 (x + vi) := f14
            obtain ⟨x15, t15, f15⟩ := hJ.fact 15 91 (by decide) (by kernel_rfl)
            obtain rfl : x15 = .int .i64 la' := f15
            obtain ⟨x16, t16, f16⟩ := hJ.fact 16 16 (by decide) (by kernel_rfl)
            obtain rfl : x16 = .int .i64 la' := f16
            have hfr := hJ.frame [(76, .int .i64 la), (77, .slice (some ⟨g, 0, none⟩) n c6), (78, .int .i64 ((i : Int))), (79, .pointer (some ⟨g, i * 2, none⟩)), (80, .pointer (some ⟨g, i * 2, none⟩)), (81, .int .i64 x), (82, .slice (some ⟨b1, o1, none⟩) nw cw), (83, .int .i64 ((i : Int))), (84, .pointer (some ⟨b1, o1 + i, none⟩)), (85, .int .u32 z), (86, .int .i64 z), (87, .int .i64 d), (88, .int .i64 (d + 1)), (89, .int .i64 vi), (90, .int .i64 (x + vi)), (91, .int .i64 la'), (16, .int .i64 la')] (by simp [t0, t1, t2, t3, t4, t5, t6, t7, t8, t9, t10, t11, t12, t13, t14, t15, t16]) (by kernel_rfl)
            have G := hJ.keep
            clear hJ t0 t1 t2 t3 t4 t5 t6 t7 t8 t9 t10 t11 t12 t13 t14 t15 t16
            rw [hfr]
            clear hfr T14
            simp only [List.foldl_cons, List.foldl_nil, List.setIfInBounds_toArray, List.set_cons_zero, List.set_cons_succ]
            have HG14 := Lib.hid G
            have fz := keepThaw G cx fz
            have cx := G.some cx
            have HOg := Lib.hid (ownsKeep HR.out.1 G)
            clear G
            go_wp2
            go_roundw
            case rel =>
              have hst := HOg.out.stored (i * 2) (.int .i64 la')
              refine ⟨i + 1, by omega, by omega, by go_num, by rw [HLA.out], Lib.hid ⟨?_, (HR.out.2.trans HG14.out).byRow hst.2 (fun k hk => by cases hk; omega)⟩⟩
              have e := outL_set c v (i := i) (by rw [HL.out]; exact hlt)
              rw [HLA.out] at e
              rw [← e]
              exact hst.1
            case measure => simp [intOf] <;> omega
          case steps14 =>
            refine LinSteps.cons (k := 0) ?_ (LinSteps.cons (k := 1) ?_ (LinSteps.cons (k := 2) ?_ (LinSteps.cons (k := 3) ?_ (LinSteps.cons (k := 4) ?_ (LinSteps.cons (k := 5) ?_ (LinSteps.cons (k := 6) ?_ (LinSteps.cons (k := 7) ?_ (LinSteps.cons (k := 8) ?_ (LinSteps.cons (k := 9) ?_ (LinSteps.cons (k := 10) ?_ (LinSteps.cons (k := 11) ?_ (LinSteps.cons (k := 12) ?_ (LinSteps.cons (k := 13) ?_ (LinSteps.cons (k := 14) ?_ (LinSteps.cons (k := 15) ?_ (LinSteps.cons (k := 16) ?_ (LinSteps.nil)))))))))))))))))
            · -- 0
              refine LinStep.plain rfl ?_
              intro QQ bb T ww hn hJ hd K HK
              have s16 := (hJ.yetSlot 16 0 16 (by kernel_rfl) (by kernel_rfl) hn _ rfl (by kernel_rfl))
              simp only [List.getElem?_toArray, List.getElem?_cons_zero, List.getElem?_cons_succ] at s16
              have G := hJ.keep
              clear hJ hd hn
              go_simp
              exact HK.out _ _ (Keep.refl _) rfl
            · -- 1
              refine LinStep.plain rfl ?_
              intro QQ bb T ww hn hJ hd K HK
              have s15 := (hJ.oldSlot 15 (by kernel_rfl))
              simp only [List.getElem?_toArray, List.getElem?_cons_zero, List.getElem?_cons_succ] at s15
              have G := hJ.keep
              clear hJ hd hn
              go_simp
              exact HK.out _ _ (Keep.refl _) rfl
            · -- 2
              refine LinStep.plain rfl ?_
              intro QQ bb T ww hn hJ hd K HK
              have s17 := (hJ.oldSlot 17 (by kernel_rfl))
              simp only [List.getElem?_toArray, List.getElem?_cons_zero, List.getElem?_cons_succ] at s17
              have G := hJ.keep
              clear hJ hd hn
              go_simp
              exact HK.out _ _ (Keep.refl _) rfl
            · -- 3
              refine LinStep.plain rfl ?_
              intro QQ bb T ww hn hJ hd K HK
              obtain ⟨x1, t1, f1⟩ := hJ.dep hd 1 77 (by kernel_rfl) (by kernel_rfl)
              obtain rfl : x1 = .slice (some ⟨g, 0, none⟩) n c6 := f1
              obtain ⟨x2, t2, f2⟩ := hJ.dep hd 2 78 (by kernel_rfl) (by kernel_rfl)
              obtain rfl : x2 = .int .i64 ((i : Int)) := f2
              have G := hJ.keep
              clear hJ hd hn
              go_wp2
              exact HK.out _ _ (Keep.refl _) rfl
            · -- 4
              refine LinStep.plain rfl ?_
              intro QQ bb T ww hn hJ hd K HK
              obtain ⟨x3, t3, f3⟩ := hJ.dep hd 3 79 (by kernel_rfl) (by kernel_rfl)
              obtain rfl : x3 = .pointer (some ⟨g, i * 2, none⟩) := f3
              have G := hJ.keep
              clear hJ hd hn
              go_simp
              exact HK.out _ _ (Keep.refl _) rfl
            · -- 5
              refine LinStep.plain rfl ?_
              intro QQ bb T ww hn hJ hd K HK
              obtain ⟨x4, t4, f4⟩ := hJ.dep hd 4 80 (by kernel_rfl) (by kernel_rfl)
              obtain rfl : x4 = .pointer (some ⟨g, i * 2, none⟩) := f4
              have G := hJ.keep
              clear hJ hd hn
              have k0 := G.some cx
              go_simp
              exact HK.out _ _ (Keep.refl _) rfl
            · -- 6
              refine LinStep.plain rfl ?_
              intro QQ bb T ww hn hJ hd K HK
              have s3 := (hJ.oldSlot 3 (by kernel_rfl))
              simp only [List.getElem?_toArray, List.getElem?_cons_zero, List.getElem?_cons_succ] at s3
              have G := hJ.keep
              clear hJ hd hn
              go_simp
              exact HK.out _ _ (Keep.refl _) rfl
            · -- 7
              refine LinStep.plain rfl ?_
              intro QQ bb T ww hn hJ hd K HK
              have s17 := (hJ.oldSlot 17 (by kernel_rfl))
              simp only [List.getElem?_toArray, List.getElem?_cons_zero, List.getElem?_cons_succ] at s17
              have G := hJ.keep
              clear hJ hd hn
              go_simp
              exact HK.out _ _ (Keep.refl _) rfl
            · -- 8
              refine LinStep.plain rfl ?_
              intro QQ bb T ww hn hJ hd K HK
              obtain ⟨x6, t6, f6⟩ := hJ.dep hd 6 82 (by kernel_rfl) (by kernel_rfl)
              obtain rfl : x6 = .slice (some ⟨b1, o1, none⟩) nw cw := f6
              obtain ⟨x7, t7, f7⟩ := hJ.dep hd 7 83 (by kernel_rfl) (by kernel_rfl)
              obtain rfl : x7 = .int .i64 ((i : Int)) := f7
              have G := hJ.keep
              clear hJ hd hn
              go_wp2
              exact HK.out _ _ (Keep.refl _) rfl
            · -- 9
              refine LinStep.plain rfl ?_
              intro QQ bb T ww hn hJ hd K HK
              obtain ⟨x8, t8, f8⟩ := hJ.dep hd 8 84 (by kernel_rfl) (by kernel_rfl)
              obtain rfl : x8 = .pointer (some ⟨b1, o1 + i, none⟩) := f8
              have G := hJ.keep
              clear hJ hd hn
              have k0 := G.some cz
              go_simp
              exact HK.out _ _ (Keep.refl _) rfl
            · -- 10
              refine LinStep.plain rfl ?_
              intro QQ bb T ww hn hJ hd K HK
              obtain ⟨x9, t9, f9⟩ := hJ.dep hd 9 85 (by kernel_rfl) (by kernel_rfl)
              obtain rfl : x9 = .int .u32 z := f9
              have G := hJ.keep
              clear hJ hd hn
              go_wp2
              exact HK.out _ _ (Keep.refl _) rfl
            · -- 11
              refine LinStep.plain rfl ?_
              intro QQ bb T ww hn hJ hd K HK
              have s11 := (hJ.oldSlot 11 (by kernel_rfl))
              simp only [List.getElem?_toArray, List.getElem?_cons_zero, List.getElem?_cons_succ] at s11
              have G := hJ.keep
              clear hJ hd hn
              go_simp
              exact HK.out _ _ (Keep.refl _) rfl
            · -- 12
              refine LinStep.plain rfl ?_
              intro QQ bb T ww hn hJ hd K HK
              obtain ⟨x11, t11, f11⟩ := hJ.dep hd 11 87 (by kernel_rfl) (by kernel_rfl)
              obtain rfl : x11 = .int .i64 d := f11
              have G := hJ.keep
              clear hJ hd hn
              have e1 : IntKind.i64.wrap (d + 1) = d + 1 := IntWalk.i64_in _ (by omega)
              go_simp
              exact HK.out _ _ (Keep.refl _) rfl
            · -- 13
              refine LinStep.plain rfl ?_
              intro QQ bb T ww hn hJ hd K HK
              obtain ⟨x10, t10, f10⟩ := hJ.dep hd 10 86 (by kernel_rfl) (by kernel_rfl)
              obtain rfl : x10 = .int .i64 z := f10
              obtain ⟨x12, t12, f12⟩ := hJ.dep hd 12 88 (by kernel_rfl) (by kernel_rfl)
              obtain rfl : x12 = .int .i64 (d + 1) := f12
              have G := hJ.keep
              clear hJ hd hn
              have e0 : IntKind.i64.wrap vi = vi := IntWalk.i64_in _ (by omega)
              have e1 : z.tmod (d + 1) = vi := HVI.out
              go_simp
              exact HK.out _ _ (Keep.refl _) rfl
            · -- 14
              refine LinStep.plain rfl ?_
              intro QQ bb T ww hn hJ hd K HK
              obtain ⟨x5, t5, f5⟩ := hJ.dep hd 5 81 (by kernel_rfl) (by kernel_rfl)
              obtain rfl : x5 = .int .i64 x := f5
              obtain ⟨x13, t13, f13⟩ := hJ.dep hd 13 89 (by kernel_rfl) (by kernel_rfl)
              obtain rfl : x13 = .int .i64 vi := f13
              have G := hJ.keep
              clear hJ hd hn
              have e1 : IntKind.i64.wrap (x + vi) = x + vi := IntWalk.i64_in _ (by omega)
              go_simp
              exact HK.out _ _ (Keep.refl _) rfl
            · -- 15
              refine LinStep.plain rfl ?_
              intro QQ bb T ww hn hJ hd K HK
              obtain ⟨x0, t0, f0⟩ := hJ.dep hd 0 76 (by kernel_rfl) (by kernel_rfl)
              obtain rfl : x0 = .int .i64 la := f0
              obtain ⟨x14, t14, f14⟩ := hJ.dep hd 14 90 (by kernel_rfl) (by kernel_rfl)
              obtain rfl : x14 = .int .i64 (x + vi) := f14
              have G := hJ.keep
              clear hJ hd hn
              go_simp
              exact HK.out _ _ (Keep.refl _) (congrArg (Value.int .i64) HE.out)
            · -- 16
              refine LinStep.plain rfl ?_
              intro QQ bb T ww hn hJ hd K HK
              obtain ⟨x15, t15, f15⟩ := hJ.dep hd 15 91 (by kernel_rfl) (by kernel_rfl)
              obtain rfl : x15 = .int .i64 la' := f15
              have G := hJ.keep
              clear hJ hd hn
              go_simp
              exact HK.out _ _ (Keep.refl _) rfl
        · obtain rfl : nw = i := by omega
          have hltw' : ¬ (nw : Int) < (nw : Int) := by omega
          have hlt' : (nw : Int) < (n : Int) := by omega
          go_wp2
          go_loopw [16, 18] (fun s16 s18 wr => ∃ k : Nat, nw ≤ k ∧ s18 = .int .i64 (k : Int) ∧ s16 = .int .i64 (lastO (atL c) v (min k n)) ∧ Hid (wr.ownsRow (B13 + 1) 35 2 (.slice a6 n c6) n (cellsL (outL c v (min k n))) ∧ Keep WB wr)) (fun _ i _ => n - (intOf i).toNat)
          case atStart => exact ⟨nw, Nat.le_refl _, rfl, by rw [show min nw n = nw by omega], Lib.hid ⟨by rw [show min nw n = nw by omega]; exact HR.out.1, HR.out.2⟩⟩
          case round =>
            obtain ⟨k, hk, rfl, rfl, HS⟩ := hrel
            by_cases hkn : k < n
            · have hkn' : (k : Int) < (n : Int) := by omega
              have em : min k n = k := by omega
              rw [em] at HS ⊢
              obtain ⟨g, cap, eg, hg1, hg2⟩ := HS.out.1.form (by omega)
              cases eg
              have hat := outL_at c v k (k := k) (by rw [HL.out]; exact hkn)
              rw [if_neg (by omega)] at hat
              have cx : wr.cell? ⟨g, k * 2, none⟩ = some (.int .i64 (atL c k)) := by rw [HS.out.1.cellAt (k * 2) (by omega), (cellsL_at (outL c v k) k (by rw [outL_len, HL.out]; exact hkn)).1, hat.1]
              have fz : wr.frozen? ⟨g, k * 2, none⟩ = false := HS.out.1.frozenAt _
              have eS : lastO (atL c) v (k + 1) = max (lastO (atL c) v k) (atL c k + v k) := rfl
              rw [HV2.out k hk, Int.add_zero] at eS
              obtain ⟨x, hx⟩ : ∃ x, atL c k = x := ⟨_, rfl⟩
              obtain ⟨la, hla⟩ : ∃ la, lastO (atL c) v k = la := ⟨_, rfl⟩
              obtain ⟨la', hla'⟩ : ∃ la', lastO (atL c) v (k + 1) = la' := ⟨_, rfl⟩
              rw [hx] at cx eS
              rw [hla'] at eS
              rw [hla] at eS ⊢
              have HLA := Lib.hid hla'
              have hgw := cellBlock cx
              clear hx hla hla' hat
              go_wp2
              rw [← eS]
              go_roundw
              case rel =>
                have hst := HS.out.1.stored (k * 2) (.int .i64 la')
                have em2 : min (k + 1) n = k + 1 := by omega
                refine ⟨k + 1, by omega, by go_num, by rw [em2, HLA.out], Lib.hid ⟨?_, HS.out.2.byRow hst.2 (fun j hj => by cases hj; omega)⟩⟩
                have e := outL_set c v (i := k) (by rw [HL.out]; exact hkn)
                rw [HLA.out] at e
                rw [em2, ← e]
                exact hst.1
              case measure => simp [intOf] <;> omega
            · have hkn' : ¬ (k : Int) < (n : Int) := by omega
              have em : min k n = n := by omega
              rw [em] at HS ⊢
              have p0 := HS.out.2.some p0
              have p1 := HS.out.2.some p1
              have hpb := cellBlock p0
              have RA := Lib.hid (rowAtOwns HS.out.1)
              have HCF : Hid (conformsR O0 Y (outL c v n) = (true, 0)) := Lib.hid (by
                have h2 := okT_out (v := v) (D := 4294967295) HT.out (fun k _ => ⟨(HVB.out k).1, (HVB.out k).2.2⟩) (fun k hk => by have := HLO.out k hk; omega)
                have h3 := fits_out (v := v) (X := X) (Y := Y) (d := d) (q := q) HT.out (by omega) (fun k _ => ⟨(HVB.out k).1, (HVB.out k).2.1⟩) (by have := le_ceilD (n := Y * d) (d := 1048576) (by omega); rw [HQ.out] at this; exact this) HG.out
                rw [HL.out] at h2 h3
                rw [HO0.out] at h3
                rw [conformsR_yes HOK.out h2, h3])
              go_wp2_with (go_at_call 20; ((with_reducible refine (conforms_is O0 Y _ _ true 0 _ RA HCF).mono ?_); rintro _ w7 ⟨rfl, k7⟩))
              go_ret
              exact ⟨rfl, (KK.out.trans HS.out.2).trans k7⟩
      · obtain rfl : n = i := by omega
        have hlt' : ¬ (n : Int) < (n : Int) := by omega
        go_wp2
        go_loopw [16, 18] (fun s16 s18 wr => ∃ k : Nat, nw ≤ k ∧ s18 = .int .i64 (k : Int) ∧ s16 = .int .i64 (lastO (atL c) v (min k n)) ∧ Hid (wr.ownsRow (B13 + 1) 35 2 (.slice a6 n c6) n (cellsL (outL c v (min k n))) ∧ Keep WB wr)) (fun _ i _ => n - (intOf i).toNat)
        case atStart => exact ⟨nw, Nat.le_refl _, rfl, by rw [show min nw n = n by omega], Lib.hid ⟨by rw [show min nw n = n by omega]; exact HR.out.1, HR.out.2⟩⟩
        case round =>
          obtain ⟨k, hk, rfl, rfl, HS⟩ := hrel
          by_cases hkn : k < n
          · exfalso; omega
          · have hkn' : ¬ (k : Int) < (n : Int) := by omega
            have em : min k n = n := by omega
            rw [em] at HS ⊢
            have p0 := HS.out.2.some p0
            have p1 := HS.out.2.some p1
            have hpb := cellBlock p0
            have RA := Lib.hid (rowAtOwns HS.out.1)
            have HCF : Hid (conformsR O0 Y (outL c v n) = (true, 0)) := Lib.hid (by
              have h2 := okT_out (v := v) (D := 4294967295) HT.out (fun k _ => ⟨(HVB.out k).1, (HVB.out k).2.2⟩) (fun k hk => by have := HLO.out k hk; omega)
              have h3 := fits_out (v := v) (X := X) (Y := Y) (d := d) (q := q) HT.out (by omega) (fun k _ => ⟨(HVB.out k).1, (HVB.out k).2.1⟩) (by have := le_ceilD (n := Y * d) (d := 1048576) (by omega); rw [HQ.out] at this; exact this) HG.out
              rw [HL.out] at h2 h3
              rw [HO0.out] at h3
              rw [conformsR_yes HOK.out h2, h3])
            go_wp2_with (go_at_call 20; ((with_reducible refine (conforms_is O0 Y _ _ true 0 _ RA HCF).mono ?_); rintro _ w7 ⟨rfl, k7⟩))
            go_ret
            exact ⟨rfl, (KK.out.trans HS.out.2).trans k7⟩

theorem lawOutput_any (Dv : Value) (B R : Int) (gs ss : List Int) (m L : Int) (a1 : Option Addr) (nw cw : Nat) (zs : Nat → Int) (w : World) (h : DraftAt w Dv B R gs ss) (hw : WaitAt w a1 nw zs) (hm : 0 ≤ m ∧ m ≤ 4294967295) (hL : 0 ≤ L ∧ L ≤ 65535) : Calls Try.prog 11 #[Dv, .int .u32 m, .int .u16 L, .slice a1 nw cw] w (Res (.bool true) w) := by
  have h' := h
  obtain ⟨⟨g, s, rfl, h1, h2⟩, h3, h4⟩ := h
  obtain ⟨ga, gl, gc, rfl, -⟩ := h1.form
  obtain ⟨sa, sl, sc, rfl, -⟩ := h2.form
  exact output_walk B R ga sa gl gc sl sc gs ss m L a1 nw cw zs w (Lib.hid h') _ _ (Lib.hid rfl) (Lib.hid rfl) (Lib.hid (okBk_of B R)) _ (Lib.hid rfl) (Lib.hid (okT_traceD h1.1 h2.1 (by omega))) (Lib.hid (traceD_low h1.1 (by omega))) (by rw [traceD_len]; omega) hm hL (Lib.hid hw)

end Go.Proofs.Ytmamadgikjkjdaa
