/- BucketConforms' walk: Conforms and First of the program and of the reference return the same, for four buckets and four traces. Written by genconforms.py. -/
import Derived.Test.YtigogelabokpbaaLawLeasts
namespace Go.Proofs.Ytigogelabokpbaa
open Go Go.RowKit

theorem refConforms_is (B R : Int) (v : Value) (l : List (Int × Int)) (c : Bool) (E : Int) (w : World) (h : Hid (RowAt w v l)) (H : Hid (conformsR B R l = (c, E))) : Calls Try.prog 24 #[.agg #[.int .i64 B, .int .i64 R], v] w (Res (.tuple #[.bool c, .int .i64 E]) w) := by
  have := refConforms_any B R v l w h.out
  rwa [H.out] at this
theorem refFirst_is (B R : Int) (v : Value) (l : List (Int × Int)) (n E : Int) (w : World) (h : Hid (RowAt w v l)) (H : Hid (firstR B R l = (n, E))) : Calls Try.prog 26 #[.agg #[.int .i64 B, .int .i64 R], v] w (Res (.tuple #[.int .i64 n, .int .i64 E]) w) := by
  have := refFirst_any B R v l w h.out
  rw [H.out] at this
  exact this

set_option maxRecDepth 100000 in
set_option maxHeartbeats 8000000 in
theorem conforms_walk (B R : Int) (ga sa : Option Addr) (gl gc sl sc : Nat) (gs ss : List Int) (b0 b1 x y p M : Int) (a0 : Option Addr) (n cap m : Nat) (l0 : List (Int × Int)) (w : World) (hD : Hid (DraftAt w (.agg #[.int .u32 B, .int .u32 R, .slice ga gl gc, .slice sa sl sc]) B R gs ss)) (X Y : Int) (HX : Hid (bOf B = X)) (HY : Hid (rOf R = Y)) (l : List (Int × Int)) (Hl : Hid (traceD gs ss (min ss.length 30) = l)) (_Hok : Hid (okT l = true)) (Hb : Hid (okBk X Y = true)) (hlen30 : l.length ≤ 30) (hRow : Hid (RowAt w (.slice a0 n cap) l0)) (hp : 0 ≤ p ∧ p ≤ 255) (hmn : m ≤ n) (hmin : min (n : Int) 40 = (m : Int)) (hmax : max 1 (X - p) = M) :
    Calls Try.prog 4 #[.agg #[.int .i64 b0, .int .i64 b1], .slice a0 n cap, .agg #[.int .u32 B, .int .u32 R, .slice ga gl gc, .slice sa sl sc], .agg #[.int .i64 x, .int .i64 y], .int .u8 p] w (Res (.bool true) w) := by
  have q0 : (((w.alloc (.cells #[.int .i64 b0, .int .i64 b1] 23)).alloc (.cells #[.int .u32 B, .int .u32 R, .slice ga gl gc, .slice sa sl sc] 27)).alloc (.cells #[.int .i64 x, .int .i64 y] 30)).cell? ⟨w.heap.size, 0, none⟩ = some (.int .i64 b0) := by simp [go_sem]
  have q1 : (((w.alloc (.cells #[.int .i64 b0, .int .i64 b1] 23)).alloc (.cells #[.int .u32 B, .int .u32 R, .slice ga gl gc, .slice sa sl sc] 27)).alloc (.cells #[.int .i64 x, .int .i64 y] 30)).cell? ⟨w.heap.size, 1, none⟩ = some (.int .i64 b1) := by simp [go_sem]
  have d0 : (((w.alloc (.cells #[.int .i64 b0, .int .i64 b1] 23)).alloc (.cells #[.int .u32 B, .int .u32 R, .slice ga gl gc, .slice sa sl sc] 27)).alloc (.cells #[.int .i64 x, .int .i64 y] 30)).cell? ⟨w.heap.size + 1, 0, none⟩ = some (.int .u32 B) := by simp [go_sem]
  have d1 : (((w.alloc (.cells #[.int .i64 b0, .int .i64 b1] 23)).alloc (.cells #[.int .u32 B, .int .u32 R, .slice ga gl gc, .slice sa sl sc] 27)).alloc (.cells #[.int .i64 x, .int .i64 y] 30)).cell? ⟨w.heap.size + 1, 1, none⟩ = some (.int .u32 R) := by simp [go_sem]
  have d2 : (((w.alloc (.cells #[.int .i64 b0, .int .i64 b1] 23)).alloc (.cells #[.int .u32 B, .int .u32 R, .slice ga gl gc, .slice sa sl sc] 27)).alloc (.cells #[.int .i64 x, .int .i64 y] 30)).cell? ⟨w.heap.size + 1, 2, none⟩ = some (.slice ga gl gc) := by simp [go_sem]
  have d3 : (((w.alloc (.cells #[.int .i64 b0, .int .i64 b1] 23)).alloc (.cells #[.int .u32 B, .int .u32 R, .slice ga gl gc, .slice sa sl sc] 27)).alloc (.cells #[.int .i64 x, .int .i64 y] 30)).cell? ⟨w.heap.size + 1, 3, none⟩ = some (.slice sa sl sc) := by simp [go_sem]
  have e0 : (((w.alloc (.cells #[.int .i64 b0, .int .i64 b1] 23)).alloc (.cells #[.int .u32 B, .int .u32 R, .slice ga gl gc, .slice sa sl sc] 27)).alloc (.cells #[.int .i64 x, .int .i64 y] 30)).cell? ⟨w.heap.size + 1 + 1, 0, none⟩ = some (.int .i64 x) := by simp [go_sem]
  have e1 : (((w.alloc (.cells #[.int .i64 b0, .int .i64 b1] 23)).alloc (.cells #[.int .u32 B, .int .u32 R, .slice ga gl gc, .slice sa sl sc] 27)).alloc (.cells #[.int .i64 x, .int .i64 y] 30)).cell? ⟨w.heap.size + 1 + 1, 1, none⟩ = some (.int .i64 y) := by simp [go_sem]
  have KK := Lib.hid (((Keep.alloc (Keep.refl w) (.cells #[.int .i64 b0, .int .i64 b1] 23)).alloc (.cells #[.int .u32 B, .int .u32 R, .slice ga gl gc, .slice sa sl sc] 27)).alloc (.cells #[.int .i64 x, .int .i64 y] 30))
  have HD := Lib.hid (hD.out.keep KK.out)
  have hcut := hRow.out.cut hmn
  have hsl : ∀ w', (Instr.slice 42 (.slice a0 n cap) none (some (.int .i64 (m : Int))) none).run Try.prog w' = .ok (.slice a0 m cap) w' := fun w' => arrivals_cut a0 n cap m (by omega) w'
  have hsa : ∀ w', (Instr.sliceAt 42 (.slice a0 n cap) none (some (.int .i64 (m : Int))) none).run Try.prog w' = .ok (.slice a0 m cap) w' := fun w' => by
    rw [run_sliceAt_slice (h := by kernel_rfl)]; exact hsl w'
  have RL := Lib.hid (hcut.1.keep KK.out)
  have bk := okBk_iff.1 Hb.out
  clear hD hRow hcut
  go_enter Try.func4, Try.ntmps4
  go_upto_region 2 with fail
  obtain ⟨W0, hW0⟩ : ∃ W0, (((w.alloc (.cells #[.int .i64 b0, .int .i64 b1] 23)).alloc (.cells #[.int .u32 B, .int .u32 R, .slice ga gl gc, .slice sa sl sc] 27)).alloc (.cells #[.int .i64 x, .int .i64 y] 30)) = W0 := ⟨_, rfl⟩
  rw [hW0] at q0 q1 d0 d1 d2 d3 e0 e1 HD KK RL ⊢
  clear hW0
  refine region_inv (J := fun bb aa ww => ∃ v11 v12 v13 v32 v33 v34 v35 v36 v37 : Value, aa = ⟨#[Value.agg #[Value.int IntKind.i64 b0, Value.int IntKind.i64 b1], Value.slice a0 m cap, Value.agg #[Value.int IntKind.u32 B, Value.int IntKind.u32 R, Value.slice ga gl gc, Value.slice sa sl sc], Value.agg #[Value.int IntKind.i64 x, Value.int IntKind.i64 y], Value.int IntKind.u8 p, Value.pointer (some { block := w.heap.size, off := 0 }), undef, Value.pointer (some { block := w.heap.size + 1, off := 0 }), Value.pointer (some { block := w.heap.size + 1 + 1, off := 0 }), undef, Value.bool false, v11, v12, v13, undef, undef, undef, undef, undef, undef, undef, undef, undef, undef, undef, undef, undef, Value.slice a0 n cap, Value.slice a0 n cap, Value.int IntKind.i64 ↑n, Value.int IntKind.i64 ↑m, Value.slice a0 m cap, v32, v33, v34, v35, v36, v37, undef, undef, undef, undef, undef, undef, undef, undef, undef, undef, undef, undef, undef, undef, undef, undef, undef, undef, undef, undef, undef, undef, undef, undef, undef, undef, undef, undef, undef, undef, undef, undef, undef, undef, undef, undef, undef, undef, undef, undef, undef, undef, undef, undef, undef, undef, undef, undef, undef, undef, undef, undef, undef, undef, undef, undef, undef, undef, undef, undef, undef, undef, undef, undef, undef, undef, undef, undef, undef, undef, undef, undef, undef, undef, undef, undef], []⟩ ∧ Keep W0 ww ∧ (bb 0 → v32 = .agg #[.int .u32 B, .int .u32 R, .slice ga gl gc, .slice sa sl sc]) ∧ (bb 1 → v33 = .agg #[.int .i64 X, .int .i64 Y]) ∧ (bb 2 → v34 = .agg #[.int .u32 B, .int .u32 R, .slice ga gl gc, .slice sa sl sc]) ∧ (bb 3 → RowAt ww v35 (l)) ∧ (bb 4 → v36 = .agg #[.int .u32 B, .int .u32 R, .slice ga gl gc, .slice sa sl sc]) ∧ (bb 5 → RowAt ww v37 (confL X Y l)) ∧ (bb 6 → VarAt W0 ww v11 (bb 7) (.int .i64 X) (.int .i64 Y)) ∧ (bb 7 → bb 6) ∧ (bb 8 → bb 3 ∧ v12 = v35) ∧ (bb 9 → bb 5 ∧ v13 = v37) ∧ (bb 6 → bb 3 → Off v11 v35) ∧ (bb 6 → bb 5 → Off v11 v37)) (by kernel_rfl) (by kernel_rfl) ?donew ?startw ?stepsw
  case donew =>
    rintro bb aa ww hb ⟨v11, v12, v13, v32, v33, v34, v35, v36, v37, rfl, G, f0, f1, f2, f3, f4, f5, f6, f7, f8, f9, o6_3, o6_5⟩
    have g0 := f0 (hb 0 (by decide))
    have g1 := f1 (hb 1 (by decide))
    have g2 := f2 (hb 2 (by decide))
    have g3 := f3 (hb 3 (by decide))
    have g4 := f4 (hb 4 (by decide))
    have g5 := f5 (hb 5 (by decide))
    have g6 := f6 (hb 6 (by decide))
    have g8 := f8 (hb 8 (by decide))
    have g9 := f9 (hb 9 (by decide))
    have p6_3 := o6_3 (hb 6 (by decide)) (hb 3 (by decide))
    have p6_5 := o6_5 (hb 6 (by decide)) (hb 5 (by decide))
    obtain rfl := g0
    obtain rfl := g1
    obtain rfl := g2
    obtain rfl := g4
    obtain ⟨-, rfl⟩ := g8
    obtain ⟨-, rfl⟩ := g9
    obtain ⟨X6, x6, y6, rfl, hX6, ⟨hc6, hd6⟩, ⟨hf6, hg6⟩, hs6⟩ := g6
    obtain ⟨rfl, rfl⟩ := hs6 (hb 7 (by decide))
    clear f0 f1 f2 f3 f4 f5 f6 f7 f8 f9 o6_3 o6_5
    have KK := Lib.hid (KK.out.trans G)
    have q0 := G.some q0
    have q1 := G.some q1
    have e0 := G.some e0
    have e1 := G.some e1
    have RL := Lib.hid (RL.out.keep G)
    obtain ⟨a3, c3, rfl, -⟩ := g3.form
    obtain ⟨a5, c5, rfl, -⟩ := g5.form
    have R3 := Lib.hid g3
    have R5 := Lib.hid g5
    have hX6 := cellBlock hc6
    have hq0 := cellBlock q0
    obtain ⟨lb, hlb⟩ : ∃ lb, bentL l x y p = lb := ⟨_, rfl⟩
    have HB := Lib.hid hlb
    have HIB : Hid (∀ i : Nat, i < 4 → ∃ c0 c1 : Int, ∀ w', (Instr.index 48 (.agg #[.int .i64 b0, .int .i64 b1, .int .i64 X, .int .i64 Y, .int .i64 M, .int .i64 Y, .int .i64 X, .int .i64 b1]) (.int .i64 (i : Int))).run Try.prog w' = .ok (.agg #[.int .i64 c0, .int .i64 c1]) w') := Lib.hid fun i hi => by
      obtain rfl | rfl | rfl | rfl : i = 0 ∨ i = 1 ∨ i = 2 ∨ i = 3 := by omega
      · exact ⟨b0, b1, fun w' => by kernel_rfl⟩
      · exact ⟨X, Y, fun w' => by kernel_rfl⟩
      · exact ⟨M, Y, fun w' => by kernel_rfl⟩
      · exact ⟨X, b1, fun w' => by kernel_rfl⟩
    have bM : 1 ≤ M ∧ M ≤ 1048576 := by omega
    clear hb g3 g5 p6_3 p6_5 hs6 d0 d1 d2 d3 HD hlb G
    go_wp2
    go_loopw [55] (fun s55 wr => ∃ i : Nat, i ≤ 4 ∧ s55 = .int .i64 (i : Int) ∧ Hid (Keep ww wr)) (fun i _ => 4 - (intOf i).toNat)
    case atStart => exact ⟨0, by omega, rfl, Lib.hid ((Keep.refl _).alloc _)⟩
    case round =>
      obtain ⟨i, hi, rfl, HR⟩ := hrel
      by_cases hlt : i < 4
      · obtain ⟨s0, s1, hix⟩ := HIB.out i hlt
        have hlt' : (i : Int) < 4 := by omega
        have e0 := HR.out.some e0
        have e1 := HR.out.some e1
        have he0 := cellBlock e0
        have RB := Lib.hid (R3.out.keep (HR.out.alloc (.cells #[.int .i64 s0, .int .i64 s1] 23)))
        go_wp2_with (go_at_call 19; ((with_reducible refine (bent_is _ l x y p lb _ RB (by omega) hp HB).mono ?_); rintro _ w1 ⟨v1, rfl, hr, hk, hf⟩; obtain ⟨a7, c7, rfl, -⟩ := hr.form; have R7 := Lib.hid hr; have k0 := hk.some (b := wr.heap.size) (o := 0) (v := .int .i64 s0) (by simp [go_sem]); have k1 := hk.some (b := wr.heap.size) (o := 1) (v := .int .i64 s1) (by simp [go_sem]); have KR := Lib.hid ((HR.out.alloc _).trans hk)))
        have HIX : Hid (∀ j : Nat, j < 4 → ∃ aa nn cc ll, (∀ w', (Instr.index 49 (.agg #[.slice a0 m cap, .slice a3 l.length c3, .slice a5 (confL X Y l).length c5, .slice a7 lb.length c7]) (.int .i64 (j : Int))).run Try.prog w' = .ok (.slice aa nn cc) w') ∧ RowAt w1 (.slice aa nn cc) ll) := Lib.hid fun j hj => by
          obtain rfl | rfl | rfl | rfl : j = 0 ∨ j = 1 ∨ j = 2 ∨ j = 3 := by omega
          · exact ⟨a0, m, cap, _, fun w' => by kernel_rfl, RL.out.keep KR.out⟩
          · exact ⟨a3, l.length, c3, _, fun w' => by kernel_rfl, R3.out.keep KR.out⟩
          · exact ⟨a5, _, c5, _, fun w' => by kernel_rfl, R5.out.keep KR.out⟩
          · exact ⟨a7, lb.length, c7, _, fun w' => by kernel_rfl, R7.out⟩
        go_loopw [66] (fun s66 wq => ∃ j : Nat, j ≤ 4 ∧ s66 = .int .i64 (j : Int) ∧ Hid (Keep w1 wq)) (fun j _ => 4 - (intOf j).toNat)
        case atStart => exact ⟨0, by omega, rfl, Lib.hid (Keep.refl _)⟩
        case round =>
          obtain ⟨j, hj, rfl, HQ⟩ := hrel
          by_cases hlj : j < 4
          · obtain ⟨aa, nn, cc, ll, hjx, hrow⟩ := HIX.out j hlj
            have hlj' : (j : Int) < 4 := by omega
            have HROW := Lib.hid (hrow.keep HQ.out)
            have k0 := HQ.out.some k0
            have k1 := HQ.out.some k1
            obtain ⟨f1, f2, hs⟩ : ∃ f1 f2, conformsR s0 s1 ll = (f1, f2) := ⟨_, _, rfl⟩
            obtain ⟨f3, f4, ht⟩ : ∃ f3 f4, firstR s0 s1 ll = (f3, f4) := ⟨_, _, rfl⟩
            have HS := Lib.hid hs
            have HT := Lib.hid ht
            clear hrow hs ht
            go_wp2_with (first | (go_at_call 23; ((with_reducible refine (conforms_is s0 s1 _ ll _ _ _ HROW HS).mono ?_); rintro _ w2 ⟨rfl, hk2⟩; have k0 := hk2.some k0; have k1 := hk2.some k1)) | (go_at_call 24; ((with_reducible refine (refConforms_is s0 s1 _ ll _ _ _ (Lib.hid (HROW.out.keep hk2)) HS).mono ?_); rintro _ w3 ⟨rfl, hk3⟩; have k0 := hk3.some k0; have k1 := hk3.some k1)) | (go_at_call 25; ((with_reducible refine (first_is s0 s1 _ ll _ _ _ (Lib.hid ((HROW.out.keep hk2).keep hk3)) HT).mono ?_); rintro _ w4 ⟨rfl, hk4⟩; have k0 := hk4.some k0; have k1 := hk4.some k1)) | (go_at_call 26; ((with_reducible refine (refFirst_is s0 s1 _ ll _ _ _ (Lib.hid (((HROW.out.keep hk2).keep hk3).keep hk4)) HT).mono ?_); rintro _ w5 ⟨rfl, hk5⟩; have k0 := hk5.some k0; have k1 := hk5.some k1)))
            go_roundw
            case rel => exact ⟨j + 1, by omega, rfl, Lib.hid ((((HQ.out.trans hk2).trans hk3).trans hk4).trans hk5)⟩
            case measure => simp [intOf]; omega
          · obtain rfl : j = 4 := by omega
            go_wp2
            go_roundw
            case rel => exact ⟨i + 1, by omega, rfl, Lib.hid (KR.out.trans HQ.out)⟩
            case measure => simp [intOf]; omega
      · obtain rfl : i = 4 := by omega
        go_wp2_with (go_at_call 21; ((with_reducible refine (works_yes _).mono ?_); rintro _ w2 ⟨rfl, hk⟩))
        go_ret
        exact ⟨rfl, (KK.out.trans HR.out).trans hk⟩
  case startw => exact ⟨_, _, _, _, _, _, _, _, _, rfl, Keep.drew (Keep.refl _), fun h => h.elim, fun h => h.elim, fun h => h.elim, fun h => h.elim, fun h => h.elim, fun h => h.elim, fun h => h.elim, fun h => h.elim, fun h => h.elim, fun h => h.elim, fun h => h.elim, fun h => h.elim⟩
  case stepsw =>
    refine StepsFrom.cons (k := 0) ?_ (StepsFrom.cons (k := 1) ?_ (StepsFrom.cons (k := 2) ?_ (StepsFrom.cons (k := 3) ?_ (StepsFrom.cons (k := 4) ?_ (StepsFrom.cons (k := 5) ?_ (StepsFrom.cons (k := 6) ?_ (StepsFrom.cons (k := 7) ?_ (StepsFrom.cons (k := 8) ?_ (StepsFrom.cons (k := 9) ?_ (StepsFrom.nil))))))))))
    · -- 0: val
      rintro bb aa ww hn hd ⟨v11, v12, v13, v32, v33, v34, v35, v36, v37, rfl, G, f0, f1, f2, f3, f4, f5, f6, f7, f8, f9, o6_3, o6_5⟩ K hK
      have k0 := G.some d0
      have k1 := G.some d1
      have k2 := G.some d2
      have k3 := G.some d3
      have HK := Lib.hid hK
      clear hK
      go_simp
      exact HK.out _ _ ⟨_, _, _, _, _, _, _, _, _, rfl, G, fun _ => rfl, up (by decide) f1, up (by decide) f2, fun h => (f3 (down (by decide) h)).keep (Keep.refl _), up (by decide) f4, fun h => (f5 (down (by decide) h)).keep (Keep.refl _), fun h => (f6 (down (by decide) h)).step (Keep.refl _) (down (by decide)), fun h => Or.inr (f7 (down (by decide) h)), fun h => ⟨Or.inr (f8 (down (by decide) h)).1, (f8 (down (by decide) h)).2⟩, fun h => ⟨Or.inr (f9 (down (by decide) h)).1, (f9 (down (by decide) h)).2⟩, fun h h' => o6_3 (down (by decide) h) (down (by decide) h'), fun h h' => o6_5 (down (by decide) h) (down (by decide) h')⟩
    · -- 1: val
      rintro bb aa ww hn hd ⟨v11, v12, v13, v32, v33, v34, v35, v36, v37, rfl, G, f0, f1, f2, f3, f4, f5, f6, f7, f8, f9, o6_3, o6_5⟩ K hK
      have b0 : bb 0 := hd ⟨0, .data⟩ (by simp) (by rfl)
      obtain rfl := f0 b0
      have HK := Lib.hid hK
      clear hK
      go_wp2_with (go_at_call 10; ((with_reducible refine (draftBucket_is _ B R gs ss _ (Lib.hid (HD.out.keep G)) X Y HX HY).mono ?_); rintro _ w1 ⟨rfl, hk⟩))
      exact HK.out _ _ ⟨_, _, _, _, _, _, _, _, _, rfl, (G.trans hk), fun _ => rfl, fun _ => rfl, up (by decide) f2, fun h => (f3 (down (by decide) h)).keep hk, up (by decide) f4, fun h => (f5 (down (by decide) h)).keep hk, fun h => (f6 (down (by decide) h)).step hk (down (by decide)), fun h => Or.inr (f7 (down (by decide) h)), fun h => ⟨Or.inr (f8 (down (by decide) h)).1, (f8 (down (by decide) h)).2⟩, fun h => ⟨Or.inr (f9 (down (by decide) h)).1, (f9 (down (by decide) h)).2⟩, fun h h' => o6_3 (down (by decide) h) (down (by decide) h'), fun h h' => o6_5 (down (by decide) h) (down (by decide) h')⟩
    · -- 2: val
      rintro bb aa ww hn hd ⟨v11, v12, v13, v32, v33, v34, v35, v36, v37, rfl, G, f0, f1, f2, f3, f4, f5, f6, f7, f8, f9, o6_3, o6_5⟩ K hK
      have k0 := G.some d0
      have k1 := G.some d1
      have k2 := G.some d2
      have k3 := G.some d3
      have HK := Lib.hid hK
      clear hK
      go_simp
      exact HK.out _ _ ⟨_, _, _, _, _, _, _, _, _, rfl, G, up (by decide) f0, up (by decide) f1, fun _ => rfl, fun h => (f3 (down (by decide) h)).keep (Keep.refl _), up (by decide) f4, fun h => (f5 (down (by decide) h)).keep (Keep.refl _), fun h => (f6 (down (by decide) h)).step (Keep.refl _) (down (by decide)), fun h => Or.inr (f7 (down (by decide) h)), fun h => ⟨Or.inr (f8 (down (by decide) h)).1, (f8 (down (by decide) h)).2⟩, fun h => ⟨Or.inr (f9 (down (by decide) h)).1, (f9 (down (by decide) h)).2⟩, fun h h' => o6_3 (down (by decide) h) (down (by decide) h'), fun h h' => o6_5 (down (by decide) h) (down (by decide) h')⟩
    · -- 3: row
      rintro bb aa ww hn hd ⟨v11, v12, v13, v32, v33, v34, v35, v36, v37, rfl, G, f0, f1, f2, f3, f4, f5, f6, f7, f8, f9, o6_3, o6_5⟩ K hK
      have b2 : bb 2 := hd ⟨2, .data⟩ (by simp) (by rfl)
      obtain rfl := f2 b2
      have HK := Lib.hid hK
      clear hK
      go_wp2_with (go_at_call 17; ((with_reducible refine (draftTrace_is _ B R gs ss _ (Lib.hid (HD.out.keep G)) l Hl).mono ?_); rintro _ w1 ⟨v1, rfl, hr, hk, hf⟩))
      exact HK.out _ _ ⟨_, _, _, _, _, _, _, _, _, rfl, (G.trans hk), up (by decide) f0, up (by decide) f1, fun _ => rfl, fun _ => hr, up (by decide) f4, fun h => (f5 (down (by decide) h)).keep hk, fun h => (f6 (down (by decide) h)).step hk (down (by decide)), fun h => Or.inr (f7 (down (by decide) h)), fun h => absurd (f8 (down (by decide) h)).1 hn, fun h => ⟨Or.inr (f9 (down (by decide) h)).1, (f9 (down (by decide) h)).2⟩, fun h _ => (f6 (down (by decide) h)).offFresh hf, fun h h' => o6_5 (down (by decide) h) (down (by decide) h')⟩
    · -- 4: val
      rintro bb aa ww hn hd ⟨v11, v12, v13, v32, v33, v34, v35, v36, v37, rfl, G, f0, f1, f2, f3, f4, f5, f6, f7, f8, f9, o6_3, o6_5⟩ K hK
      have k0 := G.some d0
      have k1 := G.some d1
      have k2 := G.some d2
      have k3 := G.some d3
      have HK := Lib.hid hK
      clear hK
      go_simp
      exact HK.out _ _ ⟨_, _, _, _, _, _, _, _, _, rfl, G, up (by decide) f0, up (by decide) f1, up (by decide) f2, fun h => (f3 (down (by decide) h)).keep (Keep.refl _), fun _ => rfl, fun h => (f5 (down (by decide) h)).keep (Keep.refl _), fun h => (f6 (down (by decide) h)).step (Keep.refl _) (down (by decide)), fun h => Or.inr (f7 (down (by decide) h)), fun h => ⟨Or.inr (f8 (down (by decide) h)).1, (f8 (down (by decide) h)).2⟩, fun h => ⟨Or.inr (f9 (down (by decide) h)).1, (f9 (down (by decide) h)).2⟩, fun h h' => o6_3 (down (by decide) h) (down (by decide) h'), fun h h' => o6_5 (down (by decide) h) (down (by decide) h')⟩
    · -- 5: row
      rintro bb aa ww hn hd ⟨v11, v12, v13, v32, v33, v34, v35, v36, v37, rfl, G, f0, f1, f2, f3, f4, f5, f6, f7, f8, f9, o6_3, o6_5⟩ K hK
      have b4 : bb 4 := hd ⟨4, .data⟩ (by simp) (by rfl)
      obtain rfl := f4 b4
      have HK := Lib.hid hK
      clear hK
      go_wp2_with (go_at_call 22; ((with_reducible refine (conf_is _ B R gs ss _ (Lib.hid (HD.out.keep G)) X Y HX HY l Hl).mono ?_); rintro _ w1 ⟨v1, rfl, hr, hk, hf⟩))
      exact HK.out _ _ ⟨_, _, _, _, _, _, _, _, _, rfl, (G.trans hk), up (by decide) f0, up (by decide) f1, up (by decide) f2, fun h => (f3 (down (by decide) h)).keep hk, fun _ => rfl, fun _ => hr, fun h => (f6 (down (by decide) h)).step hk (down (by decide)), fun h => Or.inr (f7 (down (by decide) h)), fun h => ⟨Or.inr (f8 (down (by decide) h)).1, (f8 (down (by decide) h)).2⟩, fun h => absurd (f9 (down (by decide) h)).1 hn, fun h h' => o6_3 (down (by decide) h) (down (by decide) h'), fun h _ => (f6 (down (by decide) h)).offFresh hf⟩
    · -- 6: alloc
      rintro bb aa ww hn hd ⟨v11, v12, v13, v32, v33, v34, v35, v36, v37, rfl, G, f0, f1, f2, f3, f4, f5, f6, f7, f8, f9, o6_3, o6_5⟩ K hK
      have HK := Lib.hid hK
      clear hK
      go_simp
      exact HK.out _ _ ⟨_, _, _, _, _, _, _, _, _, rfl, (G.trans (Keep.alloc (Keep.refl _) _)), up (by decide) f0, up (by decide) f1, up (by decide) f2, fun h => (f3 (down (by decide) h)).keep (Keep.alloc (Keep.refl _) _), up (by decide) f4, fun h => (f5 (down (by decide) h)).keep (Keep.alloc (Keep.refl _) _), fun _ => VarAt.new G (fun h => hn (f7 (h.resolve_left (by decide)))), fun _ => Or.inl rfl, fun h => ⟨Or.inr (f8 (down (by decide) h)).1, (f8 (down (by decide) h)).2⟩, fun h => ⟨Or.inr (f9 (down (by decide) h)).1, (f9 (down (by decide) h)).2⟩, fun _ h => (f3 (down (by decide) h)).offNew, fun _ h => (f5 (down (by decide) h)).offNew⟩
    · -- 7: store
      rintro bb aa ww hn hd ⟨v11, v12, v13, v32, v33, v34, v35, v36, v37, rfl, G, f0, f1, f2, f3, f4, f5, f6, f7, f8, f9, o6_3, o6_5⟩ K hK
      have b6 : bb 6 := hd ⟨6, .data⟩ (by simp) (by rfl)
      have b1 : bb 1 := hd ⟨1, .data⟩ (by simp) (by rfl)
      obtain rfl := f1 b1
      obtain ⟨X, c0, c1, rfl, hX, ⟨hc0, hc1⟩, ⟨hf0, hf1⟩, -⟩ := f6 b6
      have HK := Lib.hid hK
      clear hK
      go_simp
      exact HK.out _ _ ⟨_, _, _, _, _, _, _, _, _, rfl, ((G.setCell hX _).setCell hX _), up (by decide) f0, fun _ => rfl, up (by decide) f2, fun h => (f3 (down (by decide) h)).store (o6_3 b6 (down (by decide) h)), up (by decide) f4, fun h => (f5 (down (by decide) h)).store (o6_5 b6 (down (by decide) h)), fun _ => VarAt.here hX hc0 hc1 hf0 hf1, fun _ => Or.inr b6, fun h => ⟨Or.inr (f8 (down (by decide) h)).1, (f8 (down (by decide) h)).2⟩, fun h => ⟨Or.inr (f9 (down (by decide) h)).1, (f9 (down (by decide) h)).2⟩, fun h h' => o6_3 (down (by decide) h) (down (by decide) h'), fun h h' => o6_5 (down (by decide) h) (down (by decide) h')⟩
    · -- 8: val
      rintro bb aa ww hn hd ⟨v11, v12, v13, v32, v33, v34, v35, v36, v37, rfl, G, f0, f1, f2, f3, f4, f5, f6, f7, f8, f9, o6_3, o6_5⟩ K hK
      have b3 : bb 3 := hd ⟨3, .data⟩ (by simp) (by rfl)
      have HK := Lib.hid hK
      clear hK
      go_simp
      exact HK.out _ _ ⟨_, _, _, _, _, _, _, _, _, rfl, G, up (by decide) f0, up (by decide) f1, up (by decide) f2, fun h => (f3 (down (by decide) h)).keep (Keep.refl _), up (by decide) f4, fun h => (f5 (down (by decide) h)).keep (Keep.refl _), fun h => (f6 (down (by decide) h)).step (Keep.refl _) (down (by decide)), fun h => Or.inr (f7 (down (by decide) h)), fun _ => ⟨Or.inr b3, rfl⟩, fun h => ⟨Or.inr (f9 (down (by decide) h)).1, (f9 (down (by decide) h)).2⟩, fun h h' => o6_3 (down (by decide) h) (down (by decide) h'), fun h h' => o6_5 (down (by decide) h) (down (by decide) h')⟩
    · -- 9: val
      rintro bb aa ww hn hd ⟨v11, v12, v13, v32, v33, v34, v35, v36, v37, rfl, G, f0, f1, f2, f3, f4, f5, f6, f7, f8, f9, o6_3, o6_5⟩ K hK
      have b5 : bb 5 := hd ⟨5, .data⟩ (by simp) (by rfl)
      have HK := Lib.hid hK
      clear hK
      go_simp
      exact HK.out _ _ ⟨_, _, _, _, _, _, _, _, _, rfl, G, up (by decide) f0, up (by decide) f1, up (by decide) f2, fun h => (f3 (down (by decide) h)).keep (Keep.refl _), up (by decide) f4, fun h => (f5 (down (by decide) h)).keep (Keep.refl _), fun h => (f6 (down (by decide) h)).step (Keep.refl _) (down (by decide)), fun h => Or.inr (f7 (down (by decide) h)), fun h => ⟨Or.inr (f8 (down (by decide) h)).1, (f8 (down (by decide) h)).2⟩, fun _ => ⟨Or.inr b5, rfl⟩, fun h h' => o6_3 (down (by decide) h) (down (by decide) h'), fun h h' => o6_5 (down (by decide) h) (down (by decide) h')⟩

theorem lawConforms_any (b0 b1 x y p : Int) (v D : Value) (l0 : List (Int × Int)) (B R : Int) (gs ss : List Int) (w : World) (hv : RowAt w v l0) (h : DraftAt w D B R gs ss) (hp : 0 ≤ p ∧ p ≤ 255) :
    Calls Try.prog 4 #[.agg #[.int .i64 b0, .int .i64 b1], v, D, .agg #[.int .i64 x, .int .i64 y], .int .u8 p] w (Res (.bool true) w) := by
  have h' := h
  obtain ⟨⟨g, s, rfl, h1, h2⟩, h3, h4⟩ := h
  obtain ⟨ga, gl, gc, rfl, -⟩ := h1.form
  obtain ⟨sa, sl, sc, rfl, -⟩ := h2.form
  obtain ⟨a0, n, cap, rfl⟩ := hv.slice
  refine conforms_walk B R ga sa gl gc sl sc gs ss b0 b1 x y p _ a0 n cap (min n 40) l0 w (Lib.hid h') _ _ (Lib.hid rfl) (Lib.hid rfl) _ (Lib.hid rfl) (Lib.hid (okT_traceD h1.1 h2.1 (by omega))) (Lib.hid (okBk_of B R)) (by rw [traceD_len]; omega) (Lib.hid hv) hp (by omega) (by omega) rfl

end Go.Proofs.Ytigogelabokpbaa
