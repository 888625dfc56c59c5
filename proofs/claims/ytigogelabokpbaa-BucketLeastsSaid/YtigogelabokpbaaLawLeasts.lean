/- BucketLeasts' walk: Least of the program and of the reference return the same, for three rates and three traces. Written by genleasts.py. -/
import Derived.Test.YtigogelabokpbaaLawLevels
import Derived.Test.YtigogelabokpbaaRefLeast
namespace Go.Proofs.Ytigogelabokpbaa
open Go Go.RowKit

theorem refLeast_is (R : Int) (v : Value) (l : List (Int × Int)) (q E : Int) (w : World) (h : Hid (RowAt w v l)) (H : Hid (leastR R l = (q, E))) : Calls Try.prog 28 #[.int .i64 R, v] w (Res (.tuple #[.int .i64 q, .int .i64 E]) w) := by
  have := refLeast_any R v l w h.out
  rw [H.out] at this
  exact this
theorem slice_any (t : TypeId) (hs : ∀ w, (sizeOf (Try.prog.elem t)).run Try.prog w = .ok 2 w) (ht' : Try.prog.underlying t = some (.slice (Try.prog.elem t))) (a : Option Addr) (n cap m : Nat) (h : m ≤ cap) (w : World) : (Instr.slice t (.slice a n cap) none (some (.int .i64 (m : Int))) none).run Try.prog w = .ok (.slice a m cap) w := by
  rw [run_slice_h (ht := ht') (h0 := by omega) (h2 := by omega), hs]
  have ea : a.map (fun x => x.add 0) = a := by
    cases a with
    | none => rfl
    | some x => cases x; simp [Addr.add]
  simp [sliced, Result.andThen, ea]
theorem arrivals_cut (a : Option Addr) (n cap m : Nat) (h : m ≤ cap) (w : World) : (Instr.slice 42 (.slice a n cap) none (some (.int .i64 (m : Int))) none).run Try.prog w = .ok (.slice a m cap) w :=
  slice_any _ (fun w => by simp [go_sem]) (by kernel_rfl) a n cap m h w
theorem RowAt.cut {w : World} {a : Option Addr} {n cap m : Nat} {l : List (Int × Int)} (h : RowAt w (.slice a n cap) l) (hm : m ≤ n) : RowAt w (.slice a m cap) (l.take m) ∧ n ≤ cap := by
  rcases h with ⟨h, rfl⟩ | ⟨b, off, n', cap', h1, h2, h3, h4, h5⟩
  · cases h
    obtain rfl : m = 0 := by omega
    exact ⟨Or.inl ⟨rfl, by simp⟩, Nat.le_refl _⟩
  · cases h1
    exact ⟨RowAt.take h2 h3 hm h4 h5, h3.1⟩

set_option maxRecDepth 100000 in
set_option maxHeartbeats 8000000 in
theorem leasts_walk (B R : Int) (ga sa : Option Addr) (gl gc sl sc : Nat) (gs ss : List Int) (r x y p z : Int) (a0 : Option Addr) (n cap m : Nat) (l0 : List (Int × Int)) (w : World) (hD : Hid (DraftAt w (.agg #[.int .u32 B, .int .u32 R, .slice ga gl gc, .slice sa sl sc]) B R gs ss)) (X Y : Int) (HX : Hid (bOf B = X)) (HY : Hid (rOf R = Y)) (l : List (Int × Int)) (Hl : Hid (traceD gs ss (min ss.length 30) = l)) (_Hok : Hid (okT l = true)) (_Hb : Hid (okBk X Y = true)) (hlen30 : l.length ≤ 30) (hRow : Hid (RowAt w (.slice a0 n cap) l0)) (hp : 0 ≤ p ∧ p ≤ 255) (hmn : m ≤ n) (hmin : min (n : Int) 40 = (m : Int)) (hz1 : (IntKind.u64.wrap r).tmod 2097152 = z) (hz2 : IntKind.u64.wrap r % 2097152 = z) (_bz : 0 ≤ z ∧ z < 2097152) :
    Calls Try.prog 5 #[.int .i64 r, .slice a0 n cap, .agg #[.int .u32 B, .int .u32 R, .slice ga gl gc, .slice sa sl sc], .agg #[.int .i64 x, .int .i64 y], .int .u8 p] w (Res (.bool true) w) := by
  have d0 : ((w.alloc (.cells #[.int .u32 B, .int .u32 R, .slice ga gl gc, .slice sa sl sc] 27)).alloc (.cells #[.int .i64 x, .int .i64 y] 30)).cell? ⟨w.heap.size, 0, none⟩ = some (.int .u32 B) := by simp [go_sem]
  have d1 : ((w.alloc (.cells #[.int .u32 B, .int .u32 R, .slice ga gl gc, .slice sa sl sc] 27)).alloc (.cells #[.int .i64 x, .int .i64 y] 30)).cell? ⟨w.heap.size, 1, none⟩ = some (.int .u32 R) := by simp [go_sem]
  have d2 : ((w.alloc (.cells #[.int .u32 B, .int .u32 R, .slice ga gl gc, .slice sa sl sc] 27)).alloc (.cells #[.int .i64 x, .int .i64 y] 30)).cell? ⟨w.heap.size, 2, none⟩ = some (.slice ga gl gc) := by simp [go_sem]
  have d3 : ((w.alloc (.cells #[.int .u32 B, .int .u32 R, .slice ga gl gc, .slice sa sl sc] 27)).alloc (.cells #[.int .i64 x, .int .i64 y] 30)).cell? ⟨w.heap.size, 3, none⟩ = some (.slice sa sl sc) := by simp [go_sem]
  have e0 : ((w.alloc (.cells #[.int .u32 B, .int .u32 R, .slice ga gl gc, .slice sa sl sc] 27)).alloc (.cells #[.int .i64 x, .int .i64 y] 30)).cell? ⟨w.heap.size + 1, 0, none⟩ = some (.int .i64 x) := by simp [go_sem]
  have e1 : ((w.alloc (.cells #[.int .u32 B, .int .u32 R, .slice ga gl gc, .slice sa sl sc] 27)).alloc (.cells #[.int .i64 x, .int .i64 y] 30)).cell? ⟨w.heap.size + 1, 1, none⟩ = some (.int .i64 y) := by simp [go_sem]
  have KK := Lib.hid ((Keep.alloc (Keep.refl w) (.cells #[.int .u32 B, .int .u32 R, .slice ga gl gc, .slice sa sl sc] 27)).alloc (.cells #[.int .i64 x, .int .i64 y] 30))
  have HD := Lib.hid (hD.out.keep KK.out)
  have hcut := hRow.out.cut hmn
  have hsl : ∀ w', (Instr.slice 42 (.slice a0 n cap) none (some (.int .i64 (m : Int))) none).run Try.prog w' = .ok (.slice a0 m cap) w' := fun w' => arrivals_cut a0 n cap m (by omega) w'
  have hsa : ∀ w', (Instr.sliceAt 42 (.slice a0 n cap) none (some (.int .i64 (m : Int))) none).run Try.prog w' = .ok (.slice a0 m cap) w' := fun w' => by
    rw [run_sliceAt_slice (h := by kernel_rfl)]; exact hsl w'
  have RL := Lib.hid (hcut.1.keep KK.out)
  have hfd : ∀ w', (Instr.field 23 (.agg #[.int .i64 X, .int .i64 Y]) 1).run Try.prog w' = .ok (.int .i64 Y) w' := fun _ => by kernel_rfl
  clear hD hRow hcut
  go_enter Try.func5, Try.ntmps5
  go_wp2_with (go_at_call 10; ((with_reducible refine (draftBucket_is _ B R gs ss _ HD X Y HX HY).mono ?_); rintro _ w1 ⟨rfl, hk⟩; have KK := Lib.hid (KK.out.trans hk); have d0 := hk.some d0; have d1 := hk.some d1; have d2 := hk.some d2; have d3 := hk.some d3; have e0 := hk.some e0; have e1 := hk.some e1; have HD := Lib.hid (HD.out.keep hk); have RL := Lib.hid (RL.out.keep hk)))
  skip
  have HIR : Hid (∀ i : Nat, i < 3 → ∃ q : Int, ∀ w', (Instr.index 38 (.agg #[.int .i64 r, .int .i64 Y, .int .i64 (1 + z)]) (.int .i64 (i : Int))).run Try.prog w' = .ok (.int .i64 q) w') := Lib.hid fun i hi => by
    obtain rfl | rfl | rfl : i = 0 ∨ i = 1 ∨ i = 2 := by omega
    · exact ⟨r, fun w' => by kernel_rfl⟩
    · exact ⟨Y, fun w' => by kernel_rfl⟩
    · exact ⟨1 + z, fun w' => by kernel_rfl⟩
  go_loopw [34] (fun s34 wr => ∃ i : Nat, i ≤ 3 ∧ s34 = .int .i64 (i : Int) ∧ Hid (Keep w1 wr)) (fun i _ => 3 - (intOf i).toNat)
  case atStart => exact ⟨0, by omega, rfl, Lib.hid (Keep.refl _)⟩
  case round =>
    obtain ⟨i, hi, rfl, HR⟩ := hrel
    by_cases hlt : i < 3
    · obtain ⟨q, hq⟩ := HIR.out i hlt
      have hlt' : (i : Int) < 3 := by omega
      have d0 := HR.out.some d0
      have d1 := HR.out.some d1
      have d2 := HR.out.some d2
      have d3 := HR.out.some d3
      have e0 := HR.out.some e0
      have e1 := HR.out.some e1
      have HD := Lib.hid (HD.out.keep HR.out)
      have RL := Lib.hid (RL.out.keep HR.out)
      obtain ⟨lb, hlb⟩ : ∃ lb, bentL l x y p = lb := ⟨_, rfl⟩
      have HB := Lib.hid hlb
      clear hlb
      go_upto_region 5 with fail
      refine region_inv (J := fun bb aa wx => ∃ v37 v38 v39 v40 v41 v42 v43 v44 v45 v46 : Value, aa = ⟨#[Value.int IntKind.i64 r, Value.slice a0 m cap, Value.agg #[Value.int IntKind.u32 B, Value.int IntKind.u32 R, Value.slice ga gl gc, Value.slice sa sl sc], Value.agg #[Value.int IntKind.i64 x, Value.int IntKind.i64 y], Value.int IntKind.u8 p, undef, undef, Value.pointer (some { block := w.heap.size, off := 0 }), Value.pointer (some { block := w.heap.size + 1, off := 0 }), undef, u10, undef, Value.int IntKind.i64 q, undef, u14, u15, u16, u17, u18, Value.slice a0 n cap, Value.slice a0 n cap, Value.int IntKind.i64 ↑n, Value.int IntKind.i64 ↑m, Value.slice a0 m cap, Value.int IntKind.i64 r, Value.agg #[Value.int IntKind.u32 B, Value.int IntKind.u32 R, Value.slice ga gl gc, Value.slice sa sl sc], Value.agg #[Value.int IntKind.i64 X, Value.int IntKind.i64 Y], Value.int IntKind.i64 Y, Value.int IntKind.i64 r, Value.int IntKind.u64 (IntKind.u64.wrap r), Value.int IntKind.u64 z, Value.int IntKind.i64 z, Value.int IntKind.i64 (1 + z), Value.agg #[Value.int IntKind.i64 r, Value.int IntKind.i64 Y, Value.int IntKind.i64 (1 + z)], Value.int IntKind.i64 ↑i, Value.bool true, Value.int IntKind.i64 q, v37, v38, v39, v40, v41, v42, v43, v44, v45, v46, u47, u48, u49, u50, u51, u52, u53, u54, u55, u56, u57, u58, u59, u60, u61, u62, u63, u64, u65, u66, u67, u68, u69, u70, undef], []⟩ ∧ Keep wr wx ∧ (bb 0 → v37 = .slice a0 m cap) ∧ (bb 1 → v38 = .agg #[.int .u32 B, .int .u32 R, .slice ga gl gc, .slice sa sl sc]) ∧ (bb 2 → RowAt wx v39 (l)) ∧ (bb 3 → v40 = .agg #[.int .u32 B, .int .u32 R, .slice ga gl gc, .slice sa sl sc]) ∧ (bb 4 → RowAt wx v41 (l)) ∧ (bb 5 → v42 = .agg #[.int .i64 x, .int .i64 y]) ∧ (bb 6 → v43 = .int .u8 p) ∧ (bb 7 → RowAt wx v44 (lb)) ∧ (bb 8 → bb 2 ∧ bb 7 ∧ v45 = .agg #[.slice a0 m cap, v39, v44]) ∧ (bb 9 → v46 = .int .i64 0)) (by kernel_rfl) (by kernel_rfl) ?donex ?startx ?stepsx
      case donex =>
        rintro bb aa wx hb ⟨v37, v38, v39, v40, v41, v42, v43, v44, v45, v46, rfl, G, f0, f1, f2, f3, f4, f5, f6, f7, f8, f9⟩
        have g0 := f0 (hb 0 (by decide))
        have g1 := f1 (hb 1 (by decide))
        have g2 := f2 (hb 2 (by decide))
        have g3 := f3 (hb 3 (by decide))
        have g4 := f4 (hb 4 (by decide))
        have g5 := f5 (hb 5 (by decide))
        have g6 := f6 (hb 6 (by decide))
        have g7 := f7 (hb 7 (by decide))
        have g8 := f8 (hb 8 (by decide))
        have g9 := f9 (hb 9 (by decide))
        obtain rfl := g0
        obtain rfl := g1
        obtain rfl := g3
        obtain rfl := g5
        obtain rfl := g6
        obtain ⟨-, -, rfl⟩ := g8
        obtain rfl := g9
        clear f0 f1 f2 f3 f4 f5 f6 f7 f8 f9
        have RLX := Lib.hid (RL.out.keep G)
        obtain ⟨a2, c2, rfl, -⟩ := g2.form
        obtain ⟨a7, c7, rfl, -⟩ := g7.form
        have HIX : Hid (∀ j : Nat, j < 3 → ∃ aa nn cc ll, (∀ w', (Instr.index 54 (.agg #[.slice a0 m cap, .slice a2 l.length c2, .slice a7 lb.length c7]) (.int .i64 (j : Int))).run Try.prog w' = .ok (.slice aa nn cc) w') ∧ RowAt wx (.slice aa nn cc) ll) := Lib.hid fun j hj => by
          obtain rfl | rfl | rfl : j = 0 ∨ j = 1 ∨ j = 2 := by omega
          · exact ⟨a0, m, cap, _, fun w' => by kernel_rfl, RLX.out⟩
          · exact ⟨a2, l.length, c2, _, fun w' => by kernel_rfl, g2⟩
          · exact ⟨a7, lb.length, c7, _, fun w' => by kernel_rfl, g7⟩
        have HG := Lib.hid G
        clear hb g2 g7 g4 d0 d1 d2 d3 e0 e1 HD RL RLX G
        go_wp2
        go_loopw [46] (fun s46 wq => ∃ j : Nat, j ≤ 3 ∧ s46 = .int .i64 (j : Int) ∧ Hid (Keep wx wq)) (fun j _ => 3 - (intOf j).toNat)
        case atStart => exact ⟨0, by omega, rfl, Lib.hid (Keep.refl _)⟩
        case round =>
          obtain ⟨j, hj, rfl, HQ⟩ := hrel
          by_cases hlj : j < 3
          · obtain ⟨aa, nn, cc, ll, hix, hrow⟩ := HIX.out j hlj
            have hlj' : (j : Int) < 3 := by omega
            have HROW := Lib.hid (hrow.keep HQ.out)
            obtain ⟨⟨s1, s2⟩, hs⟩ : ∃ r, leastR q ll = r := ⟨_, rfl⟩
            have HS := Lib.hid hs
            clear hrow hs
            go_wp2_with (first | (go_at_call 27; ((with_reducible refine (least_is q _ ll _ _ _ HROW HS).mono ?_); rintro _ w2 ⟨rfl, hk2⟩)) | (go_at_call 28; ((with_reducible refine (refLeast_is q _ ll _ _ _ (Lib.hid (HROW.out.keep hk2)) HS).mono ?_); rintro _ w3 ⟨rfl, hk3⟩)))
            go_roundw
            case rel => exact ⟨j + 1, by omega, rfl, Lib.hid ((HQ.out.trans hk2).trans hk3)⟩
            case measure => simp [intOf]; omega
          · obtain rfl : j = 3 := by omega
            go_wp2
            go_roundw
            case rel => exact ⟨i + 1, by omega, rfl, Lib.hid ((HR.out.trans HG.out).trans HQ.out)⟩
            case measure => simp [intOf]; omega
      case startx => exact ⟨_, _, _, _, _, _, _, _, _, _, rfl, Keep.drew (Keep.refl _), fun h => h.elim, fun h => h.elim, fun h => h.elim, fun h => h.elim, fun h => h.elim, fun h => h.elim, fun h => h.elim, fun h => h.elim, fun h => h.elim, fun h => h.elim⟩
      case stepsx =>
        refine StepsFrom.cons (k := 0) ?_ (StepsFrom.cons (k := 1) ?_ (StepsFrom.cons (k := 2) ?_ (StepsFrom.cons (k := 3) ?_ (StepsFrom.cons (k := 4) ?_ (StepsFrom.cons (k := 5) ?_ (StepsFrom.cons (k := 6) ?_ (StepsFrom.cons (k := 7) ?_ (StepsFrom.cons (k := 8) ?_ (StepsFrom.cons (k := 9) ?_ (StepsFrom.nil))))))))))
        · -- 0: val
          rintro bb aa wx hn hd ⟨v37, v38, v39, v40, v41, v42, v43, v44, v45, v46, rfl, G, f0, f1, f2, f3, f4, f5, f6, f7, f8, f9⟩ K hK
          have HK := Lib.hid hK
          clear hK
          go_simp
          exact HK.out _ _ ⟨_, _, _, _, _, _, _, _, _, _, rfl, G, fun _ => rfl, up (by decide) f1, fun h => (f2 (down (by decide) h)).keep (Keep.refl _), up (by decide) f3, fun h => (f4 (down (by decide) h)).keep (Keep.refl _), up (by decide) f5, up (by decide) f6, fun h => (f7 (down (by decide) h)).keep (Keep.refl _), fun h => ⟨Or.inr (f8 (down (by decide) h)).1, Or.inr (f8 (down (by decide) h)).2.1, (f8 (down (by decide) h)).2.2⟩, up (by decide) f9⟩
        · -- 1: val
          rintro bb aa wx hn hd ⟨v37, v38, v39, v40, v41, v42, v43, v44, v45, v46, rfl, G, f0, f1, f2, f3, f4, f5, f6, f7, f8, f9⟩ K hK
          have k0 := G.some d0
          have k1 := G.some d1
          have k2 := G.some d2
          have k3 := G.some d3
          have HK := Lib.hid hK
          clear hK
          go_simp
          exact HK.out _ _ ⟨_, _, _, _, _, _, _, _, _, _, rfl, G, up (by decide) f0, fun _ => rfl, fun h => (f2 (down (by decide) h)).keep (Keep.refl _), up (by decide) f3, fun h => (f4 (down (by decide) h)).keep (Keep.refl _), up (by decide) f5, up (by decide) f6, fun h => (f7 (down (by decide) h)).keep (Keep.refl _), fun h => ⟨Or.inr (f8 (down (by decide) h)).1, Or.inr (f8 (down (by decide) h)).2.1, (f8 (down (by decide) h)).2.2⟩, up (by decide) f9⟩
        · -- 2: row
          rintro bb aa wx hn hd ⟨v37, v38, v39, v40, v41, v42, v43, v44, v45, v46, rfl, G, f0, f1, f2, f3, f4, f5, f6, f7, f8, f9⟩ K hK
          have b1 : bb 1 := hd ⟨1, .data⟩ (by simp) (by rfl)
          obtain rfl := f1 b1
          have HK := Lib.hid hK
          clear hK
          go_wp2_with (go_at_call 17; ((with_reducible refine (draftTrace_is _ B R gs ss _ (Lib.hid (HD.out.keep G)) l Hl).mono ?_); rintro _ w1 ⟨v1, rfl, hr, hk, hf⟩))
          exact HK.out _ _ ⟨_, _, _, _, _, _, _, _, _, _, rfl, (G.trans hk), up (by decide) f0, fun _ => rfl, fun _ => hr, up (by decide) f3, fun h => (f4 (down (by decide) h)).keep hk, up (by decide) f5, up (by decide) f6, fun h => (f7 (down (by decide) h)).keep hk, fun h => absurd (f8 (down (by decide) h)).1 hn, up (by decide) f9⟩
        · -- 3: val
          rintro bb aa wx hn hd ⟨v37, v38, v39, v40, v41, v42, v43, v44, v45, v46, rfl, G, f0, f1, f2, f3, f4, f5, f6, f7, f8, f9⟩ K hK
          have k0 := G.some d0
          have k1 := G.some d1
          have k2 := G.some d2
          have k3 := G.some d3
          have HK := Lib.hid hK
          clear hK
          go_simp
          exact HK.out _ _ ⟨_, _, _, _, _, _, _, _, _, _, rfl, G, up (by decide) f0, up (by decide) f1, fun h => (f2 (down (by decide) h)).keep (Keep.refl _), fun _ => rfl, fun h => (f4 (down (by decide) h)).keep (Keep.refl _), up (by decide) f5, up (by decide) f6, fun h => (f7 (down (by decide) h)).keep (Keep.refl _), fun h => ⟨Or.inr (f8 (down (by decide) h)).1, Or.inr (f8 (down (by decide) h)).2.1, (f8 (down (by decide) h)).2.2⟩, up (by decide) f9⟩
        · -- 4: row
          rintro bb aa wx hn hd ⟨v37, v38, v39, v40, v41, v42, v43, v44, v45, v46, rfl, G, f0, f1, f2, f3, f4, f5, f6, f7, f8, f9⟩ K hK
          have b3 : bb 3 := hd ⟨3, .data⟩ (by simp) (by rfl)
          obtain rfl := f3 b3
          have HK := Lib.hid hK
          clear hK
          go_wp2_with (go_at_call 17; ((with_reducible refine (draftTrace_is _ B R gs ss _ (Lib.hid (HD.out.keep G)) l Hl).mono ?_); rintro _ w1 ⟨v1, rfl, hr, hk, hf⟩))
          exact HK.out _ _ ⟨_, _, _, _, _, _, _, _, _, _, rfl, (G.trans hk), up (by decide) f0, up (by decide) f1, fun h => (f2 (down (by decide) h)).keep hk, fun _ => rfl, fun _ => hr, up (by decide) f5, up (by decide) f6, fun h => (f7 (down (by decide) h)).keep hk, fun h => ⟨Or.inr (f8 (down (by decide) h)).1, Or.inr (f8 (down (by decide) h)).2.1, (f8 (down (by decide) h)).2.2⟩, up (by decide) f9⟩
        · -- 5: val
          rintro bb aa wx hn hd ⟨v37, v38, v39, v40, v41, v42, v43, v44, v45, v46, rfl, G, f0, f1, f2, f3, f4, f5, f6, f7, f8, f9⟩ K hK
          have k0 := G.some e0
          have k1 := G.some e1
          have HK := Lib.hid hK
          clear hK
          go_simp
          exact HK.out _ _ ⟨_, _, _, _, _, _, _, _, _, _, rfl, G, up (by decide) f0, up (by decide) f1, fun h => (f2 (down (by decide) h)).keep (Keep.refl _), up (by decide) f3, fun h => (f4 (down (by decide) h)).keep (Keep.refl _), fun _ => rfl, up (by decide) f6, fun h => (f7 (down (by decide) h)).keep (Keep.refl _), fun h => ⟨Or.inr (f8 (down (by decide) h)).1, Or.inr (f8 (down (by decide) h)).2.1, (f8 (down (by decide) h)).2.2⟩, up (by decide) f9⟩
        · -- 6: val
          rintro bb aa wx hn hd ⟨v37, v38, v39, v40, v41, v42, v43, v44, v45, v46, rfl, G, f0, f1, f2, f3, f4, f5, f6, f7, f8, f9⟩ K hK
          have HK := Lib.hid hK
          clear hK
          go_simp
          exact HK.out _ _ ⟨_, _, _, _, _, _, _, _, _, _, rfl, G, up (by decide) f0, up (by decide) f1, fun h => (f2 (down (by decide) h)).keep (Keep.refl _), up (by decide) f3, fun h => (f4 (down (by decide) h)).keep (Keep.refl _), up (by decide) f5, fun _ => rfl, fun h => (f7 (down (by decide) h)).keep (Keep.refl _), fun h => ⟨Or.inr (f8 (down (by decide) h)).1, Or.inr (f8 (down (by decide) h)).2.1, (f8 (down (by decide) h)).2.2⟩, up (by decide) f9⟩
        · -- 7: row
          rintro bb aa wx hn hd ⟨v37, v38, v39, v40, v41, v42, v43, v44, v45, v46, rfl, G, f0, f1, f2, f3, f4, f5, f6, f7, f8, f9⟩ K hK
          have b4 : bb 4 := hd ⟨4, .data⟩ (by simp) (by rfl)
          obtain ⟨a4, n4, c4, e4⟩ := (f4 b4).slice
          have R4 := Lib.hid (f4 b4)
          rw [e4] at R4
          subst e4
          have b5 : bb 5 := hd ⟨5, .data⟩ (by simp) (by rfl)
          obtain rfl := f5 b5
          have b6 : bb 6 := hd ⟨6, .data⟩ (by simp) (by rfl)
          obtain rfl := f6 b6
          have HK := Lib.hid hK
          clear hK
          go_wp2_with (go_at_call 19; ((with_reducible refine (bent_is _ l x y p lb _ R4 (by omega) hp HB).mono ?_); rintro _ w1 ⟨v1, rfl, hr, hk, hf⟩))
          exact HK.out _ _ ⟨_, _, _, _, _, _, _, _, _, _, rfl, (G.trans hk), up (by decide) f0, up (by decide) f1, fun h => (f2 (down (by decide) h)).keep hk, up (by decide) f3, fun _ => R4.out.keep hk, fun _ => rfl, fun _ => rfl, fun _ => hr, fun h => absurd (f8 (down (by decide) h)).2.1 hn, up (by decide) f9⟩
        · -- 8: val
          rintro bb aa wx hn hd ⟨v37, v38, v39, v40, v41, v42, v43, v44, v45, v46, rfl, G, f0, f1, f2, f3, f4, f5, f6, f7, f8, f9⟩ K hK
          have b0 : bb 0 := hd ⟨0, .data⟩ (by simp) (by rfl)
          obtain rfl := f0 b0
          have b2 : bb 2 := hd ⟨2, .data⟩ (by simp) (by rfl)
          obtain ⟨a2, n2, c2, e2⟩ := (f2 b2).slice
          have R2 := Lib.hid (f2 b2)
          rw [e2] at R2
          subst e2
          have b7 : bb 7 := hd ⟨7, .data⟩ (by simp) (by rfl)
          obtain ⟨a7, n7, c7, e7⟩ := (f7 b7).slice
          have R7 := Lib.hid (f7 b7)
          rw [e7] at R7
          subst e7
          have HK := Lib.hid hK
          clear hK
          go_simp
          exact HK.out _ _ ⟨_, _, _, _, _, _, _, _, _, _, rfl, G, fun _ => rfl, up (by decide) f1, fun _ => R2.out.keep (Keep.refl _), up (by decide) f3, fun h => (f4 (down (by decide) h)).keep (Keep.refl _), up (by decide) f5, up (by decide) f6, fun _ => R7.out.keep (Keep.refl _), fun _ => ⟨Or.inr b2, Or.inr b7, rfl⟩, up (by decide) f9⟩
        · -- 9: val
          rintro bb aa wx hn hd ⟨v37, v38, v39, v40, v41, v42, v43, v44, v45, v46, rfl, G, f0, f1, f2, f3, f4, f5, f6, f7, f8, f9⟩ K hK
          have HK := Lib.hid hK
          clear hK
          go_simp
          exact HK.out _ _ ⟨_, _, _, _, _, _, _, _, _, _, rfl, G, up (by decide) f0, up (by decide) f1, fun h => (f2 (down (by decide) h)).keep (Keep.refl _), up (by decide) f3, fun h => (f4 (down (by decide) h)).keep (Keep.refl _), up (by decide) f5, up (by decide) f6, fun h => (f7 (down (by decide) h)).keep (Keep.refl _), fun h => ⟨Or.inr (f8 (down (by decide) h)).1, Or.inr (f8 (down (by decide) h)).2.1, (f8 (down (by decide) h)).2.2⟩, fun _ => rfl⟩
    · obtain rfl : i = 3 := by omega
      go_wp2_with (go_at_call 21; ((with_reducible refine (works_yes _).mono ?_); rintro _ w2 ⟨rfl, hk⟩))
      go_ret
      exact ⟨rfl, (KK.out.trans HR.out).trans hk⟩

theorem lawLeasts_any (r x y p : Int) (v D : Value) (l0 : List (Int × Int)) (B R : Int) (gs ss : List Int) (w : World) (hv : RowAt w v l0) (h : DraftAt w D B R gs ss) (hp : 0 ≤ p ∧ p ≤ 255) :
    Calls Try.prog 5 #[.int .i64 r, v, D, .agg #[.int .i64 x, .int .i64 y], .int .u8 p] w (Res (.bool true) w) := by
  have h' := h
  obtain ⟨⟨g, s, rfl, h1, h2⟩, h3, h4⟩ := h
  obtain ⟨ga, gl, gc, rfl, -⟩ := h1.form
  obtain ⟨sa, sl, sc, rfl, -⟩ := h2.form
  obtain ⟨a0, n, cap, rfl⟩ := hv.slice
  have hu : 0 ≤ IntKind.u64.wrap r := wrap_u64_nonneg r
  refine leasts_walk B R ga sa gl gc sl sc gs ss r x y p (IntKind.u64.wrap r % 2097152) a0 n cap (min n 40) l0 w (Lib.hid h') _ _ (Lib.hid rfl) (Lib.hid rfl) _ (Lib.hid rfl) (Lib.hid (okT_traceD h1.1 h2.1 (by omega))) (Lib.hid (okBk_of B R)) (by rw [traceD_len]; omega) (Lib.hid hv) hp (by omega) (by omega) (Int.tmod_eq_emod_of_nonneg hu) rfl (by omega)

end Go.Proofs.Ytigogelabokpbaa
