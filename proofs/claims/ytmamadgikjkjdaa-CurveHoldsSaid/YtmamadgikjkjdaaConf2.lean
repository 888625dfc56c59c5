/- What 'conforming' returns: of a draft's conforming trace what conforms to a second bucket. -/
import Derived.Test.YtmamadgikjkjdaaOutMath
import Derived.Test.YtmamadgikjkjdaaLawFns2
namespace Go.Proofs.Ytmamadgikjkjdaa
open Go Go.RowKit

set_option maxRecDepth 100000 in
set_option maxHeartbeats 4000000 in
theorem conf2_slices (B R : Int) (ga sa : Option Addr) (gl gc sl sc : Nat) (gs ss : List Int) (Bo Ro : Int) (w : World) (hD : Hid (DraftAt w (.agg #[.int .u32 B, .int .u32 R, .slice ga gl gc, .slice sa sl sc]) B R gs ss)) (X Y : Int) (HX : Hid (bOf B = X)) (HY : Hid (rOf R = Y)) (l0 : List (Int × Int)) (Hl : Hid (traceD gs ss (min ss.length 30) = l0)) (Hb : Hid (okBk Bo Ro = true)) (l : List (Int × Int)) (Hc : Hid (confL X Y l0 = l)) (Hok : Hid (okT l = true)) (hlen30 : l.length ≤ 30) :
    Calls Try.prog 43 #[.agg #[.int .u32 B, .int .u32 R, .slice ga gl gc, .slice sa sl sc], .agg #[.int .i64 Bo, .int .i64 Ro]] w (Makes (confL Bo Ro l) w) := by
  obtain ⟨i0, hi, hz0, hz1, hz2⟩ := info_parts infoArrival
  have d0 : ((w.alloc (.cells #[.int .u32 B, .int .u32 R, .slice ga gl gc, .slice sa sl sc] 25)).alloc (.cells #[.int .i64 Bo, .int .i64 Ro] 30)).cell? ⟨w.heap.size, 0, none⟩ = some (.int .u32 B) := by simp [go_sem]
  have d1 : ((w.alloc (.cells #[.int .u32 B, .int .u32 R, .slice ga gl gc, .slice sa sl sc] 25)).alloc (.cells #[.int .i64 Bo, .int .i64 Ro] 30)).cell? ⟨w.heap.size, 1, none⟩ = some (.int .u32 R) := by simp [go_sem]
  have d2 : ((w.alloc (.cells #[.int .u32 B, .int .u32 R, .slice ga gl gc, .slice sa sl sc] 25)).alloc (.cells #[.int .i64 Bo, .int .i64 Ro] 30)).cell? ⟨w.heap.size, 2, none⟩ = some (.slice ga gl gc) := by simp [go_sem]
  have d3 : ((w.alloc (.cells #[.int .u32 B, .int .u32 R, .slice ga gl gc, .slice sa sl sc] 25)).alloc (.cells #[.int .i64 Bo, .int .i64 Ro] 30)).cell? ⟨w.heap.size, 3, none⟩ = some (.slice sa sl sc) := by simp [go_sem]
  have q0 : ((w.alloc (.cells #[.int .u32 B, .int .u32 R, .slice ga gl gc, .slice sa sl sc] 25)).alloc (.cells #[.int .i64 Bo, .int .i64 Ro] 30)).cell? ⟨w.heap.size + 1, 0, none⟩ = some (.int .i64 Bo) := by simp [go_sem]
  have q1 : ((w.alloc (.cells #[.int .u32 B, .int .u32 R, .slice ga gl gc, .slice sa sl sc] 25)).alloc (.cells #[.int .i64 Bo, .int .i64 Ro] 30)).cell? ⟨w.heap.size + 1, 1, none⟩ = some (.int .i64 Ro) := by simp [go_sem]
  have K0 := Lib.hid ((Keep.alloc (Keep.refl w) (.cells #[.int .u32 B, .int .u32 R, .slice ga gl gc, .slice sa sl sc] 25)).alloc (.cells #[.int .i64 Bo, .int .i64 Ro] 30))
  have HD := Lib.hid (hD.out.keep K0.out)
  clear hD
  go_enter Try.func43, Try.ntmps43
  go_wp2_with (go_at_call 17; ((with_reducible refine (conf_is _ B R gs ss _ HD X Y HX HY l0 Hl).mono ?_); rintro _ w1 ⟨v1, rfl, hr, k1, -⟩; rw [Hc.out] at hr))
  have q0 := k1.some q0
  have q1 := k1.some q1
  have KW := Lib.hid (K0.out.trans k1)
  obtain ⟨a0, cap0, rfl, hel⟩ := hr.form
  have HEL := Lib.hid hel
  obtain ⟨BQ, hBQ⟩ : ∃ b, w.heap.size + 1 = b := ⟨_, rfl⟩
  rw [hBQ] at q0 q1
  try rw [hBQ]
  clear hel hr k1 HD d0 d1 d2 d3 K0 hBQ
  go_loopw [5, 7] (fun s5 s7 wr => ∃ k : Nat, k ≤ l.length ∧ s7 = .int .i64 k ∧ Hid (RowAt wr s5 (confL Bo Ro (l.take k)) ∧ Fresh w s5 ∧ Keep w1 wr)) (fun _ i _ => l.length - (intOf i).toNat)
  case atStart => exact ⟨0, Nat.zero_le _, rfl, Lib.hid ⟨Or.inl ⟨rfl, by simp [confL]⟩, fun _ _ _ _ h => (by cases h), Keep.refl _⟩⟩
  case round =>
    obtain ⟨k, hk, rfl, HR⟩ := hrel
    by_cases hlt : k < l.length
    · obtain ⟨b, off, rfl, c0, c1⟩ := HEL.out k hlt
      have c0 := HR.out.2.2.some c0
      have c1 := HR.out.2.2.some c1
      have v0 := HR.out.2.2.some q0
      have v1 := HR.out.2.2.some q1
      have hnext : confL Bo Ro (l.take (k + 1)) = confStep Bo Ro (confL Bo Ro (l.take k)) (l.getD k (0, 0)) := confL_succ Bo Ro l k hlt
      have hokn : okT (confL Bo Ro (l.take k) ++ [l.getD k (0, 0)]) = true := okT_next Hok.out hlt
      have hpair : l.getD k (0, 0) = (atL l k, szL l k) := rfl
      rw [hpair] at hnext hokn
      obtain ⟨x, hx⟩ : ∃ x, atL l k = x := ⟨_, rfl⟩
      obtain ⟨y, hy⟩ : ∃ y, szL l k = y := ⟨_, rfl⟩
      rw [hx] at c0 hnext hokn
      rw [hy] at c1 hnext hokn
      have hsub := (confL_sub Bo Ro l k (by omega)).length_le
      rw [List.length_take] at hsub
      obtain ⟨out, hout⟩ : ∃ out, confL Bo Ro (l.take k) = out := ⟨_, rfl⟩
      have HO := Lib.hid HR.out
      rw [hout] at hsub hnext hokn HO
      obtain ⟨n, hlen⟩ : ∃ n, out.length = n := ⟨_, rfl⟩
      rw [hlen] at hsub
      have HN := Lib.hid hnext
      have HK := Lib.hid hokn
      clear hpair hnext hokn hx hy hout HR
      go_upto_region 6 with fail
      refine region_inv (J := fun bb aa wx => ∃ v8 v19 v20 v21 v22 v23 v24 v25 v26 v27 : Value, aa = ⟨#[Value.agg #[Value.int IntKind.u32 B, Value.int IntKind.u32 R, Value.slice ga gl gc, Value.slice sa sl sc], Value.agg #[Value.int IntKind.i64 Bo, Value.int IntKind.i64 Ro], Value.pointer (some { block := w.heap.size, off := 0 }), Value.pointer (some { block := BQ, off := 0 }), Value.slice none 0 0, u5, Value.slice (some { block := b, off := off }) l.length cap0, Value.int IntKind.i64 ↑k, v8, u9, u10, Value.agg #[Value.int IntKind.u32 B, Value.int IntKind.u32 R, Value.slice ga gl gc, Value.slice sa sl sc], Value.slice (some { block := b, off := off }) l.length cap0, Value.int IntKind.i64 ↑k, Value.slice (some { block := b, off := off }) l.length cap0, Value.int IntKind.i64 ↑l.length, Value.bool true, u17, u18, v19, v20, v21, v22, v23, v24, v25, v26, v27, u28, u29, u30, u31, u32, u33, u34, u35, u36, u37, u38, u39, undef], []⟩ ∧ Keep wr wx ∧ (bb 0 → E0 (bb 2) wr.heap.size wx v19) ∧ (bb 1 → v20 = u5) ∧ (bb 2 → E2 (bb 8) wr.heap.size n out wx v21) ∧ (bb 3 → v22 = .slice (some ⟨b, off, none⟩) l.length cap0) ∧ (bb 4 → v23 = .int .i64 (k : Int)) ∧ (bb 5 → v24 = .pointer (some ⟨b, off + k * 2, none⟩)) ∧ (bb 6 → v25 = .agg #[.int .i64 x, .int .i64 y]) ∧ (bb 7 → E7 (bb 8) x y wx v26) ∧ (bb 8 → (bb 2 ∧ E8 wr.heap.size n out x y wx v27)) ∧ (bb 9 → bb 8 ∧ v8 = v27)) (by kernel_rfl) (by kernel_rfl) ?donex ?startx ?stepsx
      case donex =>
        rintro bb aa wx hb ⟨v8, v19, v20, v21, v22, v23, v24, v25, v26, v27, rfl, G, f0, f1, f2, f3, f4, f5, f6, f7, f8, f9⟩
        replace hb : ∀ k, k < 10 → bb k := fun k hk => hb k hk
        have g0 := f0 (hb 0 (by decide))
        have g1 := f1 (hb 1 (by decide))
        have g2 := f2 (hb 2 (by decide))
        have g3 := f3 (hb 3 (by decide))
        have g4 := f4 (hb 4 (by decide))
        have g5 := f5 (hb 5 (by decide))
        have g6 := f6 (hb 6 (by decide))
        have g7 := f7 (hb 7 (by decide))
        have g8 := f8 (hb 8 (by decide))
        have g9 := f9 (hb 9 (by decide))
        clear f0 f1 f2 f3 f4 f5 f6 f7 f8 f9
        obtain rfl := g1
        obtain rfl := g3
        obtain rfl := g4
        obtain rfl := g5
        obtain rfl := g6
        obtain ⟨-, rfl⟩ := g9
        obtain ⟨-, g, c, rfl, hown⟩ := g8
        have RN := Lib.hid (rowAtOwns hown)
        have FN := Lib.hid (freshOwns (w0 := w) hown (by have := KW.out.size; have := HO.out.2.2.size; omega))
        have KX := Lib.hid (HO.out.2.2.trans G)
        have RO := Lib.hid (HO.out.1.keep G)
        have v2 := G.some v0
        have v3 := G.some v1
        clear hb g0 g2 g7 hown
        cases hf : fitsL Bo Ro (out ++ [(x, y)]) with
        | true =>
          have HCF : Hid (conformsR Bo Ro (out ++ [(x, y)]) = (true, 0)) := Lib.hid (by rw [conformsR_yes Hb.out HK.out, hf])
          have HE : Hid (confL Bo Ro (l.take (k + 1)) = out ++ [(x, y)]) := Lib.hid (by rw [HN.out]; unfold confStep; rw [if_pos hf])
          clear hf
          go_wp2_with (go_at_call 20; ((with_reducible refine (conforms_is Bo Ro _ (out ++ [(x, y)]) true 0 _ RN HCF).mono ?_); rintro e w2 ⟨rfl, k2⟩))
          go_roundw
          case rel => exact ⟨k + 1, by omega, rfl, Lib.hid ⟨by rw [HE.out]; exact RN.out.keep k2, FN.out, KX.out.trans k2⟩⟩
          case measure => simp [intOf]; omega
        | false =>
          have HCF : Hid (conformsR Bo Ro (out ++ [(x, y)]) = (false, 0)) := Lib.hid (by rw [conformsR_yes Hb.out HK.out, hf])
          have HE : Hid (confL Bo Ro (l.take (k + 1)) = out) := Lib.hid (by rw [HN.out]; unfold confStep; rw [if_neg (by rw [hf]; simp)])
          clear hf
          go_wp2_with (go_at_call 20; ((with_reducible refine (conforms_is Bo Ro _ (out ++ [(x, y)]) false 0 _ RN HCF).mono ?_); rintro e w2 ⟨rfl, k2⟩))
          go_roundw
          case rel => exact ⟨k + 1, by omega, rfl, Lib.hid ⟨by rw [HE.out]; exact RO.out.keep k2, HO.out.2.1, KX.out.trans k2⟩⟩
          case measure => simp [intOf]; omega
      case startx => exact ⟨_, _, _, _, _, _, _, _, _, _, rfl, Keep.drew (Keep.refl _), fun h => h.elim, fun h => h.elim, fun h => h.elim, fun h => h.elim, fun h => h.elim, fun h => h.elim, fun h => h.elim, fun h => h.elim, fun h => h.elim, fun h => h.elim⟩
      case stepsx =>
        refine StepsFrom.cons (k := 0) ?_ (StepsFrom.cons (k := 1) ?_ (StepsFrom.cons (k := 2) ?_ (StepsFrom.cons (k := 3) ?_ (StepsFrom.cons (k := 4) ?_ (StepsFrom.cons (k := 5) ?_ (StepsFrom.cons (k := 6) ?_ (StepsFrom.cons (k := 7) ?_ (StepsFrom.cons (k := 8) ?_ (StepsFrom.cons (k := 9) ?_ (StepsFrom.nil))))))))))
        · -- 0: fact
          rintro bb aa wx hn hd ⟨v8, v19, v20, v21, v22, v23, v24, v25, v26, v27, rfl, G, f0, f1, f2, f3, f4, f5, f6, f7, f8, f9⟩ K hK
          have HK := Lib.hid hK
          clear hK
          go_simp
          exact HK.out _ _ ⟨_, _, _, _, _, _, _, _, _, _, rfl, (G.trans (Keep.alloc (Keep.refl _) _)), fun _ => Or.inr ⟨_, rfl, G.size, World.alloc_heap_new _ _⟩, up (by decide) f1, fun h => (f2 (down (by decide) h)).keep (Keep.alloc (Keep.refl _) _) Or.inr, up (by decide) f3, up (by decide) f4, up (by decide) f5, up (by decide) f6, fun h => (f7 (down (by decide) h)).keep (Keep.alloc (Keep.refl _) _) Or.inr, fun h => ⟨Or.inr (f8 (down (by decide) h)).1, (f8 (down (by decide) h)).2.keep (Keep.alloc (Keep.refl _) _)⟩, fun h => ⟨Or.inr (f9 (down (by decide) h)).1, (f9 (down (by decide) h)).2⟩⟩
        · -- 1: val
          rintro bb aa wx hn hd ⟨v8, v19, v20, v21, v22, v23, v24, v25, v26, v27, rfl, G, f0, f1, f2, f3, f4, f5, f6, f7, f8, f9⟩ K hK
          have HK := Lib.hid hK
          clear hK
          go_simp
          exact HK.out _ _ ⟨_, _, _, _, _, _, _, _, _, _, rfl, G, fun h => (f0 (down (by decide) h)).keep (Keep.refl _) Or.inr, fun _ => rfl, fun h => (f2 (down (by decide) h)).keep (Keep.refl _) Or.inr, up (by decide) f3, up (by decide) f4, up (by decide) f5, up (by decide) f6, fun h => (f7 (down (by decide) h)).keep (Keep.refl _) Or.inr, fun h => ⟨Or.inr (f8 (down (by decide) h)).1, (f8 (down (by decide) h)).2.keep (Keep.refl _)⟩, fun h => ⟨Or.inr (f9 (down (by decide) h)).1, (f9 (down (by decide) h)).2⟩⟩
        · -- 2: fact
          rintro bb aa wx hn hd ⟨v8, v19, v20, v21, v22, v23, v24, v25, v26, v27, rfl, G, f0, f1, f2, f3, f4, f5, f6, f7, f8, f9⟩ K hK
          have b1 : bb 1 := hd ⟨1, .data⟩ (by simp) (by rfl)
          obtain rfl := f1 b1
          have b0 : bb 0 := hd ⟨0, .data⟩ (by simp) (by rfl)
          obtain ⟨N, rfl, hN1, hN⟩ := (f0 b0).resolve_left hn
          have hro := HO.out.1.keep G
          have HK := Lib.hid hK
          clear hK
          rw [if_pos (by simp [Region.wanted])]
          refine wp_append_row (.tmp 19) (.tmp 20) 32 35 i0 (.agg #[.int .i64 0, .int .i64 0]) rfl Try.underlying32 hi hz0 hz1 hz2 rfl wr.heap.size N rfl hN hN1 G.size _ out rfl hro (by omega) ?_
          intro g cap w1 hown hgrow
          rw [hlen] at hown ⊢
          exact HK.out _ _ ⟨_, _, _, _, _, _, _, _, _, _, rfl, (Keep.byRow G hgrow (fun j hj => by cases hj; exact hN1)), fun _ => Or.inl (Or.inl rfl), fun _ => rfl, fun _ => Or.inr ⟨_, _, rfl, hown⟩, up (by decide) f3, up (by decide) f4, up (by decide) f5, up (by decide) f6, fun h => (f7 (down (by decide) h)).app hN hgrow Or.inr, fun h => absurd (f8 (down (by decide) h)).1 hn, fun h => ⟨Or.inr (f9 (down (by decide) h)).1, (f9 (down (by decide) h)).2⟩⟩
        · -- 3: val
          rintro bb aa wx hn hd ⟨v8, v19, v20, v21, v22, v23, v24, v25, v26, v27, rfl, G, f0, f1, f2, f3, f4, f5, f6, f7, f8, f9⟩ K hK
          have HK := Lib.hid hK
          clear hK
          go_simp
          exact HK.out _ _ ⟨_, _, _, _, _, _, _, _, _, _, rfl, G, fun h => (f0 (down (by decide) h)).keep (Keep.refl _) Or.inr, up (by decide) f1, fun h => (f2 (down (by decide) h)).keep (Keep.refl _) Or.inr, fun _ => rfl, up (by decide) f4, up (by decide) f5, up (by decide) f6, fun h => (f7 (down (by decide) h)).keep (Keep.refl _) Or.inr, fun h => ⟨Or.inr (f8 (down (by decide) h)).1, (f8 (down (by decide) h)).2.keep (Keep.refl _)⟩, fun h => ⟨Or.inr (f9 (down (by decide) h)).1, (f9 (down (by decide) h)).2⟩⟩
        · -- 4: val
          rintro bb aa wx hn hd ⟨v8, v19, v20, v21, v22, v23, v24, v25, v26, v27, rfl, G, f0, f1, f2, f3, f4, f5, f6, f7, f8, f9⟩ K hK
          have HK := Lib.hid hK
          clear hK
          go_simp
          exact HK.out _ _ ⟨_, _, _, _, _, _, _, _, _, _, rfl, G, fun h => (f0 (down (by decide) h)).keep (Keep.refl _) Or.inr, up (by decide) f1, fun h => (f2 (down (by decide) h)).keep (Keep.refl _) Or.inr, up (by decide) f3, fun _ => rfl, up (by decide) f5, up (by decide) f6, fun h => (f7 (down (by decide) h)).keep (Keep.refl _) Or.inr, fun h => ⟨Or.inr (f8 (down (by decide) h)).1, (f8 (down (by decide) h)).2.keep (Keep.refl _)⟩, fun h => ⟨Or.inr (f9 (down (by decide) h)).1, (f9 (down (by decide) h)).2⟩⟩
        · -- 5: val
          rintro bb aa wx hn hd ⟨v8, v19, v20, v21, v22, v23, v24, v25, v26, v27, rfl, G, f0, f1, f2, f3, f4, f5, f6, f7, f8, f9⟩ K hK
          have b3 : bb 3 := hd ⟨3, .data⟩ (by simp) (by rfl)
          obtain rfl := f3 b3
          have b4 : bb 4 := hd ⟨4, .data⟩ (by simp) (by rfl)
          obtain rfl := f4 b4
          have HK := Lib.hid hK
          clear hK
          go_simp
          exact HK.out _ _ ⟨_, _, _, _, _, _, _, _, _, _, rfl, G, fun h => (f0 (down (by decide) h)).keep (Keep.refl _) Or.inr, up (by decide) f1, fun h => (f2 (down (by decide) h)).keep (Keep.refl _) Or.inr, fun _ => rfl, fun _ => rfl, fun _ => rfl, up (by decide) f6, fun h => (f7 (down (by decide) h)).keep (Keep.refl _) Or.inr, fun h => ⟨Or.inr (f8 (down (by decide) h)).1, (f8 (down (by decide) h)).2.keep (Keep.refl _)⟩, fun h => ⟨Or.inr (f9 (down (by decide) h)).1, (f9 (down (by decide) h)).2⟩⟩
        · -- 6: val
          rintro bb aa wx hn hd ⟨v8, v19, v20, v21, v22, v23, v24, v25, v26, v27, rfl, G, f0, f1, f2, f3, f4, f5, f6, f7, f8, f9⟩ K hK
          have b5 : bb 5 := hd ⟨5, .data⟩ (by simp) (by rfl)
          obtain rfl := f5 b5
          have k0 := G.some c0
          have k1 := G.some c1
          have HK := Lib.hid hK
          clear hK
          go_simp
          exact HK.out _ _ ⟨_, _, _, _, _, _, _, _, _, _, rfl, G, fun h => (f0 (down (by decide) h)).keep (Keep.refl _) Or.inr, up (by decide) f1, fun h => (f2 (down (by decide) h)).keep (Keep.refl _) Or.inr, up (by decide) f3, up (by decide) f4, fun _ => rfl, fun _ => rfl, fun h => (f7 (down (by decide) h)).keep (Keep.refl _) Or.inr, fun h => ⟨Or.inr (f8 (down (by decide) h)).1, (f8 (down (by decide) h)).2.keep (Keep.refl _)⟩, fun h => ⟨Or.inr (f9 (down (by decide) h)).1, (f9 (down (by decide) h)).2⟩⟩
        · -- 7: fact
          rintro bb aa wx hn hd ⟨v8, v19, v20, v21, v22, v23, v24, v25, v26, v27, rfl, G, f0, f1, f2, f3, f4, f5, f6, f7, f8, f9⟩ K hK
          have b6 : bb 6 := hd ⟨6, .data⟩ (by simp) (by rfl)
          obtain rfl := f6 b6
          have HK := Lib.hid hK
          clear hK
          go_simp
          exact HK.out _ _ ⟨_, _, _, _, _, _, _, _, _, _, rfl, (G.trans (Keep.alloc (Keep.refl _) _)), fun h => (f0 (down (by decide) h)).keep (Keep.alloc (Keep.refl _) _) Or.inr, up (by decide) f1, fun h => (f2 (down (by decide) h)).keep (Keep.alloc (Keep.refl _) _) Or.inr, up (by decide) f3, up (by decide) f4, up (by decide) f5, fun _ => rfl, fun _ => Or.inr ⟨_, rfl, by simp [go_sem], by simp [go_sem]⟩, fun h => ⟨Or.inr (f8 (down (by decide) h)).1, (f8 (down (by decide) h)).2.keep (Keep.alloc (Keep.refl _) _)⟩, fun h => ⟨Or.inr (f9 (down (by decide) h)).1, (f9 (down (by decide) h)).2⟩⟩
        · -- 8: fact
          rintro bb aa wx hn hd ⟨v8, v19, v20, v21, v22, v23, v24, v25, v26, v27, rfl, G, f0, f1, f2, f3, f4, f5, f6, f7, f8, f9⟩ K hK
          have b2 : bb 2 := hd ⟨2, .data⟩ (by simp) (by rfl)
          have b7 : bb 7 := hd ⟨7, .data⟩ (by simp) (by rfl)
          obtain ⟨g, c, rfl, hown0⟩ := (f2 b2).resolve_left hn
          obtain ⟨Y1, rfl, hy0, hy1⟩ := (f7 b7).resolve_left hn
          have HK := Lib.hid hK
          clear hK
          refine step_append_lies _ rfl (.tmp 21) (.tmp 26) 32 rfl wr.heap.size 35 i0 (.agg #[.int .i64 0, .int .i64 0]) 2 16 Try.underlying32 hi hz0 hz1 hz2 rfl (by decide) _ _ _ rfl hown0 ⟨Y1, 0, none⟩ 1 1 [.int .i64 x, .int .i64 y] rfl rfl (cells_two hy0 hy1) (by intro u hu; simp at hu; rcases hu with rfl | rfl <;> rfl) (by omega) (by unfold maxLen; omega) (by omega) G.size _ rfl ?_
          intro g2 cap2 w1 hown hgrow _ _
          rw [show cellsL out ++ [.int .i64 x, .int .i64 y] = cellsL (out ++ [(x, y)]) by rw [cellsL_append]; rfl] at hown
          exact HK.out _ _ ⟨_, _, _, _, _, _, _, _, _, _, rfl, (Keep.byRow G hgrow (fun j hj => (hown0.lt j hj).1)), fun _ => Or.inl (Or.inr b2), up (by decide) f1, fun _ => Or.inl (Or.inl rfl), up (by decide) f3, up (by decide) f4, up (by decide) f5, up (by decide) f6, fun _ => Or.inl (Or.inl rfl), fun _ => ⟨Or.inr b2, _, _, rfl, hown⟩, fun h => absurd (f9 (down (by decide) h)).1 hn⟩
        · -- 9: val
          rintro bb aa wx hn hd ⟨v8, v19, v20, v21, v22, v23, v24, v25, v26, v27, rfl, G, f0, f1, f2, f3, f4, f5, f6, f7, f8, f9⟩ K hK
          have b8 : bb 8 := hd ⟨8, .data⟩ (by simp) (by rfl)
          have HK := Lib.hid hK
          clear hK
          go_simp
          exact HK.out _ _ ⟨_, _, _, _, _, _, _, _, _, _, rfl, G, fun h => (f0 (down (by decide) h)).keep (Keep.refl _) Or.inr, up (by decide) f1, fun h => (f2 (down (by decide) h)).keep (Keep.refl _) Or.inr, up (by decide) f3, up (by decide) f4, up (by decide) f5, up (by decide) f6, fun h => (f7 (down (by decide) h)).keep (Keep.refl _) Or.inr, fun h => ⟨Or.inr (f8 (down (by decide) h)).1, (f8 (down (by decide) h)).2.keep (Keep.refl _)⟩, fun _ => ⟨Or.inr b8, rfl⟩⟩
    · obtain rfl : k = l.length := by omega
      have HR2 : Hid (RowAt wr u5 (confL Bo Ro l)) := Lib.hid (by have := HR.out.1; rwa [List.take_length] at this)
      go_wp2
      go_ret
      exact ⟨_, rfl, HR2.out, KW.out.trans HR.out.2.2, HR.out.2.1⟩

theorem conf2_is (Dv : Value) (B R : Int) (gs ss : List Int) (Bo Ro : Int) (w : World) (h : Hid (DraftAt w Dv B R gs ss)) (X Y : Int) (HX : Hid (bOf B = X)) (HY : Hid (rOf R = Y)) (l0 : List (Int × Int)) (Hl : Hid (traceD gs ss (min ss.length 30) = l0)) (Hb : Hid (okBk Bo Ro = true)) (c : List (Int × Int)) (Hc : Hid (confL Bo Ro (confL X Y l0) = c)) :
    Calls Try.prog 43 #[Dv, .agg #[.int .i64 Bo, .int .i64 Ro]] w (Makes c w) := by
  have h' := h
  obtain ⟨⟨g, s, rfl, h1, h2⟩, h3, h4⟩ := h.out
  obtain ⟨ga, gl, gc, rfl, -⟩ := h1.form
  obtain ⟨sa, sl, sc, rfl, -⟩ := h2.form
  have hok0 : okT l0 = true := by rw [← Hl.out]; exact okT_traceD h1.1 h2.1 (by omega)
  have hlen : l0.length ≤ 30 := by rw [← Hl.out, traceD_len]; omega
  have := conf2_slices B R ga sa gl gc sl sc gs ss Bo Ro w h' X Y HX HY l0 Hl Hb _ (Lib.hid rfl) (Lib.hid (okT_confL hok0)) (Nat.le_trans (confL_sublist X Y l0).length_le hlen)
  rwa [Hc.out] at this

end Go.Proofs.Ytmamadgikjkjdaa
