/- CurveTight's and CurveJoins' mathematics: one bucket's delay. -/
import Derived.Test.YtmamadgikjkjdaaWorks4
import Derived.Test.YtmamadgikjkjdaaDraft
namespace Go.Proofs.Ytmamadgikjkjdaa
open Go Go.RowKit

theorem okSv_of {S L : Int} (h : 1 ≤ S ∧ S ≤ 2097152 ∧ 0 ≤ L ∧ L ≤ 268435456) : okSv S L = true := okSv_iff.2 h
theorem flow_one {X Y S L : Int} (hb : okBk X Y = true) (hs : okSv S L = true) (h : Y ≤ S) : flowE [(X, Y)] S L = 0 := by
  unfold flowE bucketsE serveE slowAny anyN
  rw [hs]
  simp [okEach, atL, szL, hb, h]
theorem delay_one {X Y S L : Int} (hb : okBk X Y = true) (hs : okSv S L = true) (h : Y ≤ S) : delayR [(X, Y)] S L = (L + ceilD (X * 1048576) S, 0) := by
  unfold delayR
  rw [if_pos (flow_one hb hs h), clearS_one h (okSv_iff.1 hs).1 (okBk_iff.1 hb).2.1]
theorem flow_three {X Y S L : Int} (hb : okBk X Y = true) (hs : okSv S L = true) (h : Y ≤ S) : flowE [(X, Y), (X, Y), (X, Y)] S L = 0 := by
  have e : okEach (atL [(X, Y), (X, Y), (X, Y)]) (szL [(X, Y), (X, Y), (X, Y)]) 3 = true := by
    rw [okEach_succ, okEach_succ, okEach_succ]
    simp [okEach, atL, szL, hb]
  have e2 : slowAny [(X, Y), (X, Y), (X, Y)] S = true := anyN_yes (k := 0) (by simp) (by simp [szL, h])
  unfold flowE bucketsE serveE
  rw [hs, e2]
  simp [e]
theorem delay_three {X Y S L : Int} (hb : okBk X Y = true) (hs : okSv S L = true) (h : Y ≤ S) : delayR [(X, Y), (X, Y), (X, Y)] S L = (L + ceilD (X * 1048576) S, 0) := by
  have bk := okBk_iff.1 hb
  have sv := okSv_iff.1 hs
  have h1 := slowD_le (B := X) sv.1 bk.2.1
  unfold delayR
  rw [if_pos (flow_three hb hs h)]
  have e : outerL (atL [(X, Y), (X, Y), (X, Y)]) (szL [(X, Y), (X, Y), (X, Y)]) S 3 3 = [ceilD (X * 1048576) S, ceilD (X * 1048576) S, ceilD (X * 1048576) S] := by
    have hn : ¬ S < Y := by omega
    simp [outerL, innerL, atL, szL, h, hn]
  have e2 : clearS [(X, Y), (X, Y), (X, Y)] S = ceilD (X * 1048576) S := by
    show minL _ (outerL (atL [(X, Y), (X, Y), (X, Y)]) (szL [(X, Y), (X, Y), (X, Y)]) S 3 3) = _
    rw [e]
    show min (min (min 1125899906842624 (ceilD (X * 1048576) S)) (ceilD (X * 1048576) S)) (ceilD (X * 1048576) S) = _
    omega
  rw [e2]
theorem ceilD_add {t S n : Int} (hS : 0 < S) : ceilD (t * S + n) S = t + ceilD n S := by
  unfold ceilD
  have e : -(t * S + n) = -n + (-t) * S := by rw [Int.neg_mul]; omega
  rw [e, Int.add_mul_ediv_right _ _ (by omega)]
  omega
theorem drain_one {t X S L : Int} (ht : 0 ≤ t ∧ t ≤ 1099511627776) (hX : 1 ≤ X ∧ X ≤ 1048576) (hs : okSv S L = true) : drainR [(t, X)] S L = ([t + (L + ceilD (X * 1048576) S)], 0) := by
  have sv := okSv_iff.1 hs
  have hk : okT [(t, X)] = true := okT_iff.2 ⟨by simp, okSteps_iff.2 fun k hk => by
    obtain rfl : k = 0 := by simpa using hk
    simp [okStep, prevAt, atL, szL]; omega⟩
  have h0 : 0 ≤ t * S := Int.mul_nonneg ht.1 (by omega)
  have e : doneS (atL [(t, X)]) (szL [(t, X)]) S 1 = t * S + X * 1048576 := by
    show max (max 0 0) (t * S) + X * 1048576 = _
    omega
  unfold drainR
  rw [hk, hs, if_pos rfl, if_pos rfl]
  unfold drainL drainK
  simp only [List.length_cons, List.length_nil, Nat.zero_add, List.range_one, List.map_cons, List.map_nil]
  rw [e, ceilD_add (by omega)]
  congr 2
  omega
theorem listOne {w : World} {v : Value} {q : Int} (h : ListAt w v [q]) : ∃ b off cap, v = .slice (some ⟨b, off, none⟩) 1 cap ∧ w.cell? ⟨b, off, none⟩ = some (.int .i64 q) := by
  rcases h with ⟨_, h⟩ | ⟨b, off, n, cap, rfl, h2, h3, h4⟩
  · cases h
  · obtain rfl : n = 1 := by simpa using h2.symm
    exact ⟨b, off, cap, rfl, by simpa using h4 0 (by omega)⟩
theorem rowAll (w : World) (l : List (Int × Int)) (t : TypeId) (N : Nat) (cs : Array Value) (n : Nat) (hN : N = w.heap.size) (hc : cs = (cellsL l).toArray) (hn : n = l.length) (hl : l.length ≤ 1000) : RowAt (w.alloc (.cells cs t)) (.slice (some ⟨N, 0, none⟩) n n) l := by
  subst hN hc hn
  exact rowNew w l t hl

set_option maxRecDepth 100000 in
set_option maxHeartbeats 8000000 in
theorem tight_walk (B R : Int) (ga sa : Option Addr) (gl gc sl sc : Nat) (gs ss : List Int) (m L t : Int) (w : World) (hD : Hid (DraftAt w (.agg #[.int .u32 B, .int .u32 R, .slice ga gl gc, .slice sa sl sc]) B R gs ss)) (X Y : Int) (HX : Hid (bOf B = X)) (HY : Hid (rOf R = Y)) (Hb : Hid (okBk X Y = true)) (hm : 0 ≤ m ∧ m ≤ 4294967295) (hL : 0 ≤ L ∧ L ≤ 65535) (ht : 0 ≤ t ∧ t ≤ 4294967295) :
    Calls Try.prog 10 #[.agg #[.int .u32 B, .int .u32 R, .slice ga gl gc, .slice sa sl sc], .int .u32 m, .int .u16 L, .int .u32 t] w (Res (.bool true) w) := by
  have bk := okBk_iff.1 Hb.out
  have d0 : (w.alloc (.cells #[.int .u32 B, .int .u32 R, .slice ga gl gc, .slice sa sl sc] 25)).cell? ⟨w.heap.size, 0, none⟩ = some (.int .u32 B) := by simp [go_sem]
  have d1 : (w.alloc (.cells #[.int .u32 B, .int .u32 R, .slice ga gl gc, .slice sa sl sc] 25)).cell? ⟨w.heap.size, 1, none⟩ = some (.int .u32 R) := by simp [go_sem]
  have d2 : (w.alloc (.cells #[.int .u32 B, .int .u32 R, .slice ga gl gc, .slice sa sl sc] 25)).cell? ⟨w.heap.size, 2, none⟩ = some (.slice ga gl gc) := by simp [go_sem]
  have d3 : (w.alloc (.cells #[.int .u32 B, .int .u32 R, .slice ga gl gc, .slice sa sl sc] 25)).cell? ⟨w.heap.size, 3, none⟩ = some (.slice sa sl sc) := by simp [go_sem]
  have KK := Lib.hid (Keep.alloc (Keep.refl w) (.cells #[.int .u32 B, .int .u32 R, .slice ga gl gc, .slice sa sl sc] 25))
  have HD := Lib.hid (hD.out.keep KK.out)
  clear hD
  obtain ⟨S, hS⟩ : ∃ S, min 2097152 (Y + m % 262144) = S := ⟨_, rfl⟩
  have bS : 1 ≤ S ∧ S ≤ 2097152 ∧ Y ≤ S := by omega
  have HSv : Hid (okSv S L = true) := Lib.hid (okSv_of (by omega))
  obtain ⟨d, hd⟩ : ∃ d, L + ceilD (X * 1048576) S = d := ⟨_, rfl⟩
  have H1 : Hid (delayR [(X, Y)] S L = (d, 0)) := Lib.hid (by rw [delay_one Hb.out HSv.out bS.2.2, hd])
  have H2 : Hid (delayR [(X, Y), (X, Y), (X, Y)] S L = (d, 0)) := Lib.hid (by rw [delay_three Hb.out HSv.out bS.2.2, hd])
  have H3 : Hid (drainR [(t, X)] S L = ([t + d], 0)) := Lib.hid (by rw [drain_one (by omega) (by omega) HSv.out, hd])
  have bd : 0 ≤ d ∧ d ≤ 1099511693311 := by
    have h1 := slowD_le (B := X) bS.1 bk.2.1
    have h2 := ceilD_nonneg (n := X * 1048576) (d := S) (by omega) (by omega)
    omega
  have e0 : (d == d) = true := by simp
  have e1 : (t + d == t + d) = true := by simp
  clear hd
  go_enter Try.func10, Try.ntmps10
  go_wp2_with fail
  go_at_call 32
  refine (works4_yes _).mono ?_
  rintro _ w1 ⟨rfl, k1⟩
  have d0 := k1.some (by first | exact d0 | exact cell_alloc_old _ d0 | exact cell_alloc_old _ (cell_alloc_old _ d0) | exact cell_alloc_old _ (cell_alloc_old _ (cell_alloc_old _ d0)))
  have d1 := k1.some (by first | exact d1 | exact cell_alloc_old _ d1 | exact cell_alloc_old _ (cell_alloc_old _ d1) | exact cell_alloc_old _ (cell_alloc_old _ (cell_alloc_old _ d1)))
  have d2 := k1.some (by first | exact d2 | exact cell_alloc_old _ d2 | exact cell_alloc_old _ (cell_alloc_old _ d2) | exact cell_alloc_old _ (cell_alloc_old _ (cell_alloc_old _ d2)))
  have d3 := k1.some (by first | exact d3 | exact cell_alloc_old _ d3 | exact cell_alloc_old _ (cell_alloc_old _ d3) | exact cell_alloc_old _ (cell_alloc_old _ (cell_alloc_old _ d3)))
  have HD := Lib.hid (by first | exact HD.out.keep k1 | exact HD.out.keep ((Keep.alloc (Keep.refl _) _).trans k1) | exact HD.out.keep (((Keep.alloc (Keep.refl _) _).alloc _).trans k1) | exact HD.out.keep ((((Keep.alloc (Keep.refl _) _).alloc _).alloc _).trans k1))
  have KK := Lib.hid (by first | exact KK.out.trans k1 | exact (KK.out.alloc _).trans k1 | exact ((KK.out.alloc _).alloc _).trans k1 | exact (((KK.out.alloc _).alloc _).alloc _).trans k1)
  have hd0 := cellBlock d0
  go_wp2_with fail
  go_at_call 16
  refine (draftBucket_is _ B R gs ss _ HD X Y HX HY).mono ?_
  rintro _ w2 ⟨rfl, k2⟩
  have d0 := k2.some (by first | exact d0 | exact cell_alloc_old _ d0 | exact cell_alloc_old _ (cell_alloc_old _ d0) | exact cell_alloc_old _ (cell_alloc_old _ (cell_alloc_old _ d0)))
  have d1 := k2.some (by first | exact d1 | exact cell_alloc_old _ d1 | exact cell_alloc_old _ (cell_alloc_old _ d1) | exact cell_alloc_old _ (cell_alloc_old _ (cell_alloc_old _ d1)))
  have d2 := k2.some (by first | exact d2 | exact cell_alloc_old _ d2 | exact cell_alloc_old _ (cell_alloc_old _ d2) | exact cell_alloc_old _ (cell_alloc_old _ (cell_alloc_old _ d2)))
  have d3 := k2.some (by first | exact d3 | exact cell_alloc_old _ d3 | exact cell_alloc_old _ (cell_alloc_old _ d3) | exact cell_alloc_old _ (cell_alloc_old _ (cell_alloc_old _ d3)))
  have HD := Lib.hid (by first | exact HD.out.keep k2 | exact HD.out.keep ((Keep.alloc (Keep.refl _) _).trans k2) | exact HD.out.keep (((Keep.alloc (Keep.refl _) _).alloc _).trans k2) | exact HD.out.keep ((((Keep.alloc (Keep.refl _) _).alloc _).alloc _).trans k2))
  have KK := Lib.hid (by first | exact KK.out.trans k2 | exact (KK.out.alloc _).trans k2 | exact ((KK.out.alloc _).alloc _).trans k2 | exact (((KK.out.alloc _).alloc _).alloc _).trans k2)
  have hd0 := cellBlock d0
  go_wp2_with fail
  go_at_call 33
  refine (delay_is _ 1 1 [(X, Y)] S L d 0 _ (Lib.hid (rowAll _ [(X, Y)] _ _ _ 1 (by simp) rfl rfl (by simp))) H1).mono ?_
  rintro _ w3 ⟨rfl, k3⟩
  have b0 : w3.cell? ⟨w2.heap.size, 0, none⟩ = some (.int .i64 X) := k3.some (by first | (simp [go_sem]; done) | exact cell_alloc_old _ (by simp [go_sem]) | exact cell_alloc_old _ (cell_alloc_old _ (by simp [go_sem])))
  have b1 : w3.cell? ⟨w2.heap.size, 1, none⟩ = some (.int .i64 Y) := k3.some (by first | (simp [go_sem]; done) | exact cell_alloc_old _ (by simp [go_sem]) | exact cell_alloc_old _ (cell_alloc_old _ (by simp [go_sem])))
  have s0 : w3.cell? ⟨w2.heap.size + 1, 0, none⟩ = some (.int .i64 S) := k3.some (by first | (simp [go_sem]; done) | exact cell_alloc_old _ (by simp [go_sem]) | exact cell_alloc_old _ (cell_alloc_old _ (by simp [go_sem])))
  have s1 : w3.cell? ⟨w2.heap.size + 1, 1, none⟩ = some (.int .i64 L) := k3.some (by first | (simp [go_sem]; done) | exact cell_alloc_old _ (by simp [go_sem]) | exact cell_alloc_old _ (cell_alloc_old _ (by simp [go_sem])))
  have KK := Lib.hid (by first | exact KK.out.trans k3 | exact (KK.out.alloc _).trans k3 | exact ((KK.out.alloc _).alloc _).trans k3 | exact (((KK.out.alloc _).alloc _).alloc _).trans k3)
  have hb0 := cellBlock b0
  have hs0 := cellBlock s0
  go_wp2_with fail
  go_at_call 40
  refine (drain_slice _ 1 1 [(t, X)] S L _ _ (Lib.hid (rowAll _ [(t, X)] _ _ _ 1 (by simp) rfl rfl (by simp))) H3).mono ?_
  rintro _ w4 ⟨v, rfl, hl, k4⟩
  have b0 := k4.some (by first | exact b0 | exact cell_alloc_old _ b0 | exact cell_alloc_old _ (cell_alloc_old _ b0) | exact cell_alloc_old _ (cell_alloc_old _ (cell_alloc_old _ b0)))
  have b1 := k4.some (by first | exact b1 | exact cell_alloc_old _ b1 | exact cell_alloc_old _ (cell_alloc_old _ b1) | exact cell_alloc_old _ (cell_alloc_old _ (cell_alloc_old _ b1)))
  have s0 := k4.some (by first | exact s0 | exact cell_alloc_old _ s0 | exact cell_alloc_old _ (cell_alloc_old _ s0) | exact cell_alloc_old _ (cell_alloc_old _ (cell_alloc_old _ s0)))
  have s1 := k4.some (by first | exact s1 | exact cell_alloc_old _ s1 | exact cell_alloc_old _ (cell_alloc_old _ s1) | exact cell_alloc_old _ (cell_alloc_old _ (cell_alloc_old _ s1)))
  have KK := Lib.hid (by first | exact KK.out.trans k4 | exact (KK.out.alloc _).trans k4 | exact ((KK.out.alloc _).alloc _).trans k4 | exact (((KK.out.alloc _).alloc _).alloc _).trans k4)
  have hb0 := cellBlock b0
  have hs0 := cellBlock s0
  obtain ⟨vb, vo, vc, rfl, q0⟩ := listOne hl
  clear hl
  go_wp2_with fail
  go_at_call 33
  refine (delay_is _ 3 3 [(X, Y), (X, Y), (X, Y)] S L d 0 _ (Lib.hid (rowAll _ [(X, Y), (X, Y), (X, Y)] _ _ _ 3 (by simp) rfl rfl (by simp))) H2).mono ?_
  rintro _ w5 ⟨rfl, k5⟩
  have b0 := k5.some (by first | exact b0 | exact cell_alloc_old _ b0 | exact cell_alloc_old _ (cell_alloc_old _ b0) | exact cell_alloc_old _ (cell_alloc_old _ (cell_alloc_old _ b0)))
  have b1 := k5.some (by first | exact b1 | exact cell_alloc_old _ b1 | exact cell_alloc_old _ (cell_alloc_old _ b1) | exact cell_alloc_old _ (cell_alloc_old _ (cell_alloc_old _ b1)))
  have s0 := k5.some (by first | exact s0 | exact cell_alloc_old _ s0 | exact cell_alloc_old _ (cell_alloc_old _ s0) | exact cell_alloc_old _ (cell_alloc_old _ (cell_alloc_old _ s0)))
  have s1 := k5.some (by first | exact s1 | exact cell_alloc_old _ s1 | exact cell_alloc_old _ (cell_alloc_old _ s1) | exact cell_alloc_old _ (cell_alloc_old _ (cell_alloc_old _ s1)))
  have q0 := k5.some (by first | exact q0 | exact cell_alloc_old _ q0 | exact cell_alloc_old _ (cell_alloc_old _ q0) | exact cell_alloc_old _ (cell_alloc_old _ (cell_alloc_old _ q0)))
  have KK := Lib.hid (by first | exact KK.out.trans k5 | exact (KK.out.alloc _).trans k5 | exact ((KK.out.alloc _).alloc _).trans k5 | exact (((KK.out.alloc _).alloc _).alloc _).trans k5)
  have hb0 := cellBlock b0
  have hs0 := cellBlock s0
  have hq0 := cellBlock q0
  go_wp2
  go_ret
  exact ⟨rfl, KK.out⟩

theorem lawTight_any (Dv : Value) (B R : Int) (gs ss : List Int) (m L t : Int) (w : World) (h : DraftAt w Dv B R gs ss) (hm : 0 ≤ m ∧ m ≤ 4294967295) (hL : 0 ≤ L ∧ L ≤ 65535) (ht : 0 ≤ t ∧ t ≤ 4294967295) : Calls Try.prog 10 #[Dv, .int .u32 m, .int .u16 L, .int .u32 t] w (Res (.bool true) w) := by
  have h' := h
  obtain ⟨⟨g, s, rfl, h1, h2⟩, h3, h4⟩ := h
  obtain ⟨ga, gl, gc, rfl, -⟩ := h1.form
  obtain ⟨sa, sl, sc, rfl, -⟩ := h2.form
  exact tight_walk B R ga sa gl gc sl sc gs ss m L t  w (Lib.hid h') _ _ (Lib.hid rfl) (Lib.hid rfl) (Lib.hid (okBk_of B R)) hm hL ht

end Go.Proofs.Ytmamadgikjkjdaa
