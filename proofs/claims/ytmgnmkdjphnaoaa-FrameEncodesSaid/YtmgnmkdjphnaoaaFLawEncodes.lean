/- FrameEncodes answers true for every input. -/
import Derived.Test.YtmgnmkdjphnaoaaFWorks
import Derived.Test.YtmgnmkdjphnaoaaFDraft
import Derived.Test.YtmgnmkdjphnaoaaFCut
import Derived.Test.YtmgnmkdjphnaoaaTail
import Derived.Deep.CutBlock
import Derived.Test.YtmgnmkdjphnaoaaCLinM
namespace Go.Proofs.Ytmgnmkdjphnaoaa
open Go Go.RowKit

theorem wp_make_bytes {o : Oper} {a : Act} {w : World} {K : Act → World → Prop} {Q : Exit → Act → World → Prop} (l c : Operand) (hop : o.op = Op.makeSlice 28 l c) (n : Nat) (hl : a.eval l = .int .i64 n) (hc : a.eval c = .int .i64 n) (hn : n ≤ 100000)
    (h : ∀ w', Keep w w' → BytesAt w' w.heap.size (List.replicate n 0) → K (a.put o.dst (.slice (some ⟨w.heap.size, 0, none⟩) n n)) w') : o.wp Try.prog a w K Q := by
  obtain ⟨i, hi, hz0, hz1, hz2⟩ := info_parts infoU8
  obtain ⟨w', hrun, r1, r2⟩ := run_make_full (P := Try.prog) w w.heap.size 28 5 i (.int .u8 0) 1 Try.underlying28 hi hz0 hz1 .i64 .i64 n (by rw [hz2]; omega) (by unfold maxLen; omega) (Nat.le_refl _)
  unfold Oper.wp
  simp [execOp, hop, hl, hc, hrun, Result.andThen]
  exact h w' (Keep.by (Keep.refl w) r2) (bytes_made r1).2
set_option maxRecDepth 1000000 in
set_option maxHeartbeats 8000000 in
theorem lawEncodes_any (D S : Int) (Tg : Bool) (P V : Int) (Q : Bool) (N Y : Int) (X : ByteArray) (a b l g k q : Int) (x : ByteArray) (n o : Int) (w : World) (hX : X.size ≤ maxLen) (ha : 0 ≤ a ∧ a < 65536) (hb : 0 ≤ b ∧ b < 65536) (hl : 0 ≤ l ∧ l < 65536) (hg : 0 ≤ g ∧ g < 256) (hk : 0 ≤ k ∧ k < 256) (hq : 0 ≤ q ∧ q < 65536) (hx : x.size ≤ maxLen) (hn : I64 n) (ho : 0 ≤ o ∧ o < 256) : Calls Try.prog 3 #[.agg #[.int .i64 D, .int .i64 S, .bool Tg, .int .i64 P, .int .i64 V, .bool Q, .int .i64 N, .int .i64 Y, .string X], .agg #[.int .u16 a, .int .u16 b, .int .u16 l, .int .u8 g, .int .u8 k, .int .u16 q, .string x], .int .i64 n, .int .u8 o] w (Res (.bool true) w) := by
  have hd : ∀ w', Calls Try.prog 9 #[.agg #[.int .u16 a, .int .u16 b, .int .u16 l, .int .u8 g, .int .u8 k, .int .u16 q, .string x]] w' (SomeF w') := fun w' => draft_any a b l g k q x w' ha hb hl hg hk hq hx
  have HD := Lib.hid hd
  have HXM := Lib.hid hX
  have HI := Lib.hid hn
  clear hd ha hb hl hg hk hq hx hX hn
  obtain ⟨r, hr⟩ : ∃ r, o % 9 = r := ⟨_, rfl⟩
  have hr2 : o.tmod 9 = r := by rw [Int.tmod_eq_emod_of_nonneg ho.1]; exact hr
  have hrb : r = 0 ∨ r = 1 ∨ r = 2 ∨ r = 3 ∨ r = 4 ∨ r = 5 ∨ r = 6 ∨ r = 7 ∨ r = 8 := by omega
  go_enter Try.func3, Try.ntmps3
  go_upto_region 1 with fail
  have hF0 : FrAt ((w.alloc (.cells #[.int .i64 D, .int .i64 S, .bool Tg, .int .i64 P, .int .i64 V, .bool Q, .int .i64 N, .int .i64 Y, .string X] 23)).alloc (.cells #[.int .u16 a, .int .u16 b, .int .u16 l, .int .u8 g, .int .u8 k, .int .u16 q, .string x] 26)) w.heap.size D S Tg P V Q N Y X := fr_k (heap_alloc_new w (.cells #[.int .i64 D, .int .i64 S, .bool Tg, .int .i64 P, .int .i64 V, .bool Q, .int .i64 N, .int .i64 Y, .string X] 23)) ((Keep.refl _).alloc _)
  have hA : DrAt ((w.alloc (.cells #[.int .i64 D, .int .i64 S, .bool Tg, .int .i64 P, .int .i64 V, .bool Q, .int .i64 N, .int .i64 Y, .string X] 23)).alloc (.cells #[.int .u16 a, .int .u16 b, .int .u16 l, .int .u8 g, .int .u8 k, .int .u16 q, .string x] 26)) (w.heap.size + 1) a b l g k q x := by
    have := heap_alloc_new (w.alloc (.cells #[.int .i64 D, .int .i64 S, .bool Tg, .int .i64 P, .int .i64 V, .bool Q, .int .i64 N, .int .i64 Y, .string X] 23)) (.cells #[.int .u16 a, .int .u16 b, .int .u16 l, .int .u8 g, .int .u8 k, .int .u16 q, .string x] 26)
    rw [show (w.alloc (.cells #[.int .i64 D, .int .i64 S, .bool Tg, .int .i64 P, .int .i64 V, .bool Q, .int .i64 N, .int .i64 Y, .string X] 23)).heap.size = w.heap.size + 1 by simp] at this
    exact this
  have K0 := Lib.hid (((Keep.refl w).alloc (.cells #[.int .i64 D, .int .i64 S, .bool Tg, .int .i64 P, .int .i64 V, .bool Q, .int .i64 N, .int .i64 Y, .string X] 23)).alloc (.cells #[.int .u16 a, .int .u16 b, .int .u16 l, .int .u8 g, .int .u8 k, .int .u16 q, .string x] 26))
  generalize (w.alloc (.cells #[.int .i64 D, .int .i64 S, .bool Tg, .int .i64 P, .int .i64 V, .bool Q, .int .i64 N, .int .i64 Y, .string X] 23)).alloc (.cells #[.int .u16 a, .int .u16 b, .int .u16 l, .int .u8 g, .int .u8 k, .int .u16 q, .string x] 26) = w0 at *
  obtain ⟨A, hAA⟩ : ∃ A, w.heap.size + 1 = A := ⟨_, rfl⟩
  obtain ⟨F0, hFF⟩ : ∃ F, w.heap.size = F := ⟨_, rfl⟩
  rw [hAA] at hA ⊢
  rw [hFF] at hF0 ⊢
  clear hAA hFF
  obtain ⟨a0, a1, a2, a3, a4, a5, a6⟩ := dr_cells hA
  go_upto_region 2 with (go_at_call 9; ((with_reducible refine (HD.out _).mono ?_); rintro e' w1 ⟨⟨E, R, U, H, W, O, M, Z, C⟩, hok, rfl, k1⟩))
  have hO : FrAt (w1.alloc (.cells #[.int .i64 E, .int .i64 R, .bool U, .int .i64 H, .int .i64 W, .bool O, .int .i64 M, .int .i64 Z, .string C] 23)) w1.heap.size E R U H W O M Z C := heap_alloc_new w1 _
  have hF1 := fr_k hF0 (k1.trans ((Keep.refl w1).alloc (.cells #[.int .i64 E, .int .i64 R, .bool U, .int .i64 H, .int .i64 W, .bool O, .int .i64 M, .int .i64 Z, .string C] 23)))
  have K1 := Lib.hid ((K0.out.trans k1).alloc (.cells #[.int .i64 E, .int .i64 R, .bool U, .int .i64 H, .int .i64 W, .bool O, .int .i64 M, .int .i64 Z, .string C] 23))
  have hds := ok_data _ hok
  dsimp only at hds
  clear hF0 K0 k1 hA a0 a1 a2 a3 a4 a5 a6 HD hok
  generalize w1.alloc (.cells #[.int .i64 E, .int .i64 R, .bool U, .int .i64 H, .int .i64 W, .bool O, .int .i64 M, .int .i64 Z, .string C] 23) = w2 at *
  generalize w1.heap.size = O1 at *
  obtain ⟨c0, c1, c2, c3, c4, c5, c6, c7, c8⟩ := fr_cells hO
  go_upto_region 3 with fail
  have hB : FrAt (w2.alloc (.cells #[.int .i64 E, .int .i64 R, .bool U, .int .i64 H, .int .i64 W, .bool O, .int .i64 M, .int .i64 Z, .string C] 23)) w2.heap.size E R U H W O M Z C := heap_alloc_new w2 _
  have hF2 := fr_k hF1 ((Keep.refl w2).alloc (.cells #[.int .i64 E, .int .i64 R, .bool U, .int .i64 H, .int .i64 W, .bool O, .int .i64 M, .int .i64 Z, .string C] 23))
  have hO2 := fr_k hO ((Keep.refl w2).alloc (.cells #[.int .i64 E, .int .i64 R, .bool U, .int .i64 H, .int .i64 W, .bool O, .int .i64 M, .int .i64 Z, .string C] 23))
  have HNE : Hid (F0 ≠ w2.heap.size ∧ O1 ≠ w2.heap.size ∧ w.heap.size ≤ w2.heap.size) := Lib.hid ⟨by have := heap_lt hF1; omega, by have := heap_lt hO; omega, K1.out.size⟩
  have K2 := Lib.hid (K1.out.alloc (.cells #[.int .i64 E, .int .i64 R, .bool U, .int .i64 H, .int .i64 W, .bool O, .int .i64 M, .int .i64 Z, .string C] 23))
  clear hF1 hO K1 c0 c1 c2 c3 c4 c5 c6 c7 c8
  generalize w2.alloc (.cells #[.int .i64 E, .int .i64 R, .bool U, .int .i64 H, .int .i64 W, .bool O, .int .i64 M, .int .i64 Z, .string C] 23) = w3 at *
  generalize w2.heap.size = B at *
  obtain ⟨b0, b1, b2, b3, b4, b5, b6, b7, b8⟩ := fr_cells hB
  have fb := fr_free hB
  have f0 := fb 0
  have f1 := fb 1
  have f2 := fb 2
  have f3 := fb 3
  have f4 := fb 4
  have f5 := fb 5
  have f6 := fb 6
  have f7 := fb 7
  have f8 := fb 8
  clear fb
  obtain ⟨-, -, o2, -, -, o5, -, -, o8⟩ := fr_cells hO2
  go_upto_block 0 with fail
  go_cut [] (fun wx => ∃ E' R' U' H' W' O' M' Z' C', (C' : ByteArray).size ≤ 5000 ∧ Hid (FrAt wx B E' R' U' H' W' O' M' Z' C') ∧ Hid (FrAt wx O1 E R U H W O M Z C) ∧ Hid (FrAt wx F0 D S Tg P V Q N Y X) ∧ Hid (Keep w wx))
  case first =>
    clear hr hr2
    rcases hrb with rfl | rfl | rfl | rfl | rfl | rfl | rfl | rfl | rfl
    · go_wp2
      go_meet
      have hkx := keepX_set w3 B 0 (.int .i64 n)
      exact ⟨(n), (R), (U), (H), (W), (O), (M), (Z), (C), by omega, Lib.hid (heap_setCell_same _ _ _ _ _ _ hB), Lib.hid (fr_x hO2 hkx HNE.out.2.1), Lib.hid (fr_x hF2 hkx HNE.out.1), Lib.hid (K2.out.byX hkx HNE.out.2.2)⟩
    · go_wp2
      go_meet
      have hkx := keepX_set w3 B 1 (.int .i64 n)
      exact ⟨(E), (n), (U), (H), (W), (O), (M), (Z), (C), by omega, Lib.hid (heap_setCell_same _ _ _ _ _ _ hB), Lib.hid (fr_x hO2 hkx HNE.out.2.1), Lib.hid (fr_x hF2 hkx HNE.out.1), Lib.hid (K2.out.byX hkx HNE.out.2.2)⟩
    · go_wp2
      go_meet
      have hkx := keepX_set w3 B 3 (.int .i64 n)
      exact ⟨(E), (R), (U), (n), (W), (O), (M), (Z), (C), by omega, Lib.hid (heap_setCell_same _ _ _ _ _ _ hB), Lib.hid (fr_x hO2 hkx HNE.out.2.1), Lib.hid (fr_x hF2 hkx HNE.out.1), Lib.hid (K2.out.byX hkx HNE.out.2.2)⟩
    · go_wp2
      go_meet
      have hkx := keepX_set w3 B 4 (.int .i64 n)
      exact ⟨(E), (R), (U), (H), (n), (O), (M), (Z), (C), by omega, Lib.hid (heap_setCell_same _ _ _ _ _ _ hB), Lib.hid (fr_x hO2 hkx HNE.out.2.1), Lib.hid (fr_x hF2 hkx HNE.out.1), Lib.hid (K2.out.byX hkx HNE.out.2.2)⟩
    · go_wp2
      go_meet
      have hkx := keepX_set w3 B 6 (.int .i64 n)
      exact ⟨(E), (R), (U), (H), (W), (O), (n), (Z), (C), by omega, Lib.hid (heap_setCell_same _ _ _ _ _ _ hB), Lib.hid (fr_x hO2 hkx HNE.out.2.1), Lib.hid (fr_x hF2 hkx HNE.out.1), Lib.hid (K2.out.byX hkx HNE.out.2.2)⟩
    · go_wp2
      go_meet
      have hkx := keepX_set w3 B 7 (.int .i64 n)
      exact ⟨(E), (R), (U), (H), (W), (O), (M), (n), (C), by omega, Lib.hid (heap_setCell_same _ _ _ _ _ _ hB), Lib.hid (fr_x hO2 hkx HNE.out.2.1), Lib.hid (fr_x hF2 hkx HNE.out.1), Lib.hid (K2.out.byX hkx HNE.out.2.2)⟩
    · go_wp2
      go_meet
      have hkx := keepX_set w3 B 2 (.bool (!U))
      exact ⟨(E), (R), (!U), (H), (W), (O), (M), (Z), (C), by omega, Lib.hid (heap_setCell_same _ _ _ _ _ _ hB), Lib.hid (fr_x hO2 hkx HNE.out.2.1), Lib.hid (fr_x hF2 hkx HNE.out.1), Lib.hid (K2.out.byX hkx HNE.out.2.2)⟩
    · go_wp2
      go_meet
      have hkx := keepX_set w3 B 5 (.bool (!O))
      exact ⟨(E), (R), (U), (H), (W), (!O), (M), (Z), (C), by omega, Lib.hid (heap_setCell_same _ _ _ _ _ _ hB), Lib.hid (fr_x hO2 hkx HNE.out.2.1), Lib.hid (fr_x hF2 hkx HNE.out.1), Lib.hid (K2.out.byX hkx HNE.out.2.2)⟩
    · obtain ⟨u, hu⟩ : ∃ u : Int, n % 18446744073709551616 = u := ⟨_, rfl⟩
      obtain ⟨j, hj⟩ : ∃ j : Nat, (u % 1502).toNat = j := ⟨_, rfl⟩
      have hji : u % 1502 = (j : Int) := by omega
      have hub : 0 ≤ u ∧ u < 18446744073709551616 := by omega
      have hu0 : IntKind.u64.wrap n = u := by rw [← hu]; rfl
      have hjt : u.tmod 1502 = (j : Int) := by rw [Int.tmod_eq_emod_of_nonneg hub.1, hji]
      have hjb : j < 1502 := by omega
      obtain ⟨zj, hzj⟩ : ∃ v : ByteArray, ⟨(List.replicate j (0 : UInt8)).toArray⟩ = v := ⟨_, rfl⟩
      have hzs : zj.size = j := by rw [← hzj]; simp [ByteArray.size]
      obtain ⟨CZ, hcz⟩ : ∃ v, C ++ zj = v := ⟨_, rfl⟩
      have hczs : CZ.size ≤ 5000 := by rw [← hcz, ByteArray.size_append]; omega
      have HJB : Hid (j ≤ 100000) := Lib.hid (by omega)
      have hgt : ¬ 9223372036854775807 < C.size + zj.size := by omega
      have hjw : IntKind.i64.wrap (j : Int) = (j : Int) := IntWalk.i64_in _ (by omega)
      have hjw2 : wrap64 (j : Int) = (j : Int) := by clear hjw; unfold wrap64; omega
      have HU := Lib.hid (And.intro hu hu0)
      have HJ : Hid (u % 1502 = (j : Int) ∧ u.tmod 1502 = (j : Int) ∧ IntKind.i64.wrap (j : Int) = (j : Int) ∧ wrap64 (j : Int) = (j : Int)) := Lib.hid ⟨hji, hjt, hjw, hjw2⟩
      have HZ := Lib.hid hzj
      have HCZ : Hid (C ++ zj = CZ ∧ ¬ 9223372036854775807 < C.size + zj.size) := Lib.hid ⟨hcz, hgt⟩
      have HCZS := Lib.hid hczs
      clear hgt hu hj hji hub hu0 hjt hjb hjw hjw2 hzj hzs hcz hczs
      go_upto_region 4 with fail
      refine region_tail (h := 10) (W0 := w3) (listF [fun v ww => v = .pointer (some ⟨O1, 8, none⟩), fun v ww => v = .string C, fun v ww => v = .int .i64 n, fun v ww => v = .int .u64 u, fun v ww => v = .int .u64 (j : Int), fun v ww => v = .int .i64 (j : Int), fun v ww => ∃ B, v = .slice (some ⟨B, 0, none⟩) j j ∧ BytesAt ww B (List.replicate j 0), fun v ww => v = .string zj, fun v ww => v = .string CZ, fun v ww => v = .pointer (some ⟨B, 8, none⟩)]) (listF_stable _ ⟨fun _ _ _ _ h => h, fun _ _ _ _ h => h, fun _ _ _ _ h => h, fun _ _ _ _ h => h, fun _ _ _ _ h => h, fun _ _ _ _ h => h, fun _ _ _ hk ⟨B, h1, h2⟩ => ⟨B, h1, h2.keep hk⟩, fun _ _ _ _ h => h, fun _ _ _ _ h => h, fun _ _ _ _ h => h, trivial⟩) (by kernel_rfl) (by kernel_rfl) (by kernel_rfl) (by kernel_rfl) (by kernel_rfl) (by kernel_rfl) (Keep.refl _) ?done4 ?steps4
      case done4 =>
        intro T4 wz4 hJ
        obtain ⟨x0, t0, f0⟩ := hJ.fact 0 26 (by decide) (by kernel_rfl)
        obtain rfl : x0 = .pointer (some ⟨O1, 8, none⟩) := f0
        obtain ⟨x1, t1, f1⟩ := hJ.fact 1 27 (by decide) (by kernel_rfl)
        obtain rfl : x1 = .string C := f1
        obtain ⟨x2, t2, f2⟩ := hJ.fact 2 28 (by decide) (by kernel_rfl)
        obtain rfl : x2 = .int .i64 n := f2
        obtain ⟨x3, t3, f3⟩ := hJ.fact 3 29 (by decide) (by kernel_rfl)
        obtain rfl : x3 = .int .u64 u := f3
        obtain ⟨x4, t4, f4⟩ := hJ.fact 4 30 (by decide) (by kernel_rfl)
        obtain rfl : x4 = .int .u64 (j : Int) := f4
        obtain ⟨x5, t5, f5⟩ := hJ.fact 5 31 (by decide) (by kernel_rfl)
        obtain rfl : x5 = .int .i64 (j : Int) := f5
        obtain ⟨x6, t6, f6⟩ := hJ.fact 6 32 (by decide) (by kernel_rfl)
        replace f6 : ∃ B, x6 = .slice (some ⟨B, 0, none⟩) j j ∧ BytesAt wz4 B (List.replicate j 0) := f6
        obtain ⟨x7, t7, f7⟩ := hJ.fact 7 33 (by decide) (by kernel_rfl)
        obtain rfl : x7 = .string zj := f7
        obtain ⟨x8, t8, f8⟩ := hJ.fact 8 34 (by decide) (by kernel_rfl)
        obtain rfl : x8 = .string CZ := f8
        obtain ⟨x9, t9, f9⟩ := hJ.fact 9 35 (by decide) (by kernel_rfl)
        obtain rfl : x9 = .pointer (some ⟨B, 8, none⟩) := f9
        have hfr := hJ.frameTo [(26, .pointer (some ⟨O1, 8, none⟩)), (27, .string C), (28, .int .i64 n), (29, .int .u64 u), (30, .int .u64 (j : Int)), (31, .int .i64 (j : Int)), (32, x6), (33, .string zj), (34, .string CZ), (35, .pointer (some ⟨B, 8, none⟩))] (by simp [t0, t1, t2, t3, t4, t5, t6, t7, t8, t9]) (by kernel_rfl)
        have G := hJ.keep
        clear hJ t0 t1 t2 t3 t4 t5 t6 t7 t8 t9
        rw [hfr]
        clear hfr T4
        simp only [List.foldl_cons, List.foldl_nil, List.setIfInBounds_toArray, List.set_cons_zero, List.set_cons_succ, List.drop_succ_cons, List.drop_zero]
        obtain ⟨BM, rfl, hM⟩ := f6
        have hB9 := fr_k hB G
        have hO9 := fr_k hO2 G
        have hF9 := fr_k hF2 G
        have K9 := Lib.hid (K2.out.trans G)
        have f8 := fr_free hB9 8
        obtain ⟨-, -, -, -, -, -, -, -, b8⟩ := fr_cells hB9
        clear hB hO2 hF2 K2 hM G
        go_wp2
        go_meet
        have hkx := keepX_set wz4 B 8 (.string CZ)
        exact ⟨E, R, U, H, W, O, M, Z, CZ, HCZS.out, Lib.hid (fr_data hB9 CZ), Lib.hid (fr_x hO9 hkx HNE.out.2.1), Lib.hid (fr_x hF9 hkx HNE.out.1), Lib.hid (K9.out.byX hkx HNE.out.2.2)⟩
      case steps4 =>
        refine LinSteps.cons (k := 0) ?_ (LinSteps.cons (k := 1) ?_ (LinSteps.cons (k := 2) ?_ (LinSteps.cons (k := 3) ?_ (LinSteps.cons (k := 4) ?_ (LinSteps.cons (k := 5) ?_ (LinSteps.cons (k := 6) ?_ (LinSteps.cons (k := 7) ?_ (LinSteps.cons (k := 8) ?_ (LinSteps.cons (k := 9) ?_ (LinSteps.nil))))))))))
        · -- 0
          refine LinStep.plain rfl ?_
          intro QQ bb T ww hn hJ hd K HK
          have s9 := (hJ.oldSlot 9 (by kernel_rfl))
          simp only [List.getElem?_toArray, List.getElem?_cons_zero, List.getElem?_cons_succ] at s9
          have G := hJ.keep
          clear hJ hd hn
          go_simp
          exact HK.out _ _ (Keep.refl _) rfl
        · -- 1
          refine LinStep.plain rfl ?_
          intro QQ bb T ww hn hJ hd K HK
          obtain ⟨x0, t0, f0⟩ := hJ.dep hd 0 26 (by kernel_rfl) (by kernel_rfl)
          obtain rfl : x0 = .pointer (some ⟨O1, 8, none⟩) := f0
          have G := hJ.keep
          clear hJ hd hn
          have k0 := G.some o8
          go_simp
          exact HK.out _ _ (Keep.refl _) rfl
        · -- 2
          refine LinStep.plain rfl ?_
          intro QQ bb T ww hn hJ hd K HK
          have s2 := (hJ.oldSlot 2 (by kernel_rfl))
          simp only [List.getElem?_toArray, List.getElem?_cons_zero, List.getElem?_cons_succ] at s2
          have G := hJ.keep
          clear hJ hd hn
          go_simp
          exact HK.out _ _ (Keep.refl _) rfl
        · -- 3
          refine LinStep.plain rfl ?_
          intro QQ bb T ww hn hJ hd K HK
          obtain ⟨x2, t2, f2⟩ := hJ.dep hd 2 28 (by kernel_rfl) (by kernel_rfl)
          obtain rfl : x2 = .int .i64 n := f2
          have G := hJ.keep
          clear hJ hd hn
          have h1 := HU.out.1
          have h2 := HU.out.2
          go_simp
          exact HK.out _ _ (Keep.refl _) rfl
        · -- 4
          refine LinStep.plain rfl ?_
          intro QQ bb T ww hn hJ hd K HK
          obtain ⟨x3, t3, f3⟩ := hJ.dep hd 3 29 (by kernel_rfl) (by kernel_rfl)
          obtain rfl : x3 = .int .u64 u := f3
          have G := hJ.keep
          clear hJ hd hn
          have h1 := HJ.out.1
          have h2 := HJ.out.2.1
          go_simp
          exact HK.out _ _ (Keep.refl _) rfl
        · -- 5
          refine LinStep.plain rfl ?_
          intro QQ bb T ww hn hJ hd K HK
          obtain ⟨x4, t4, f4⟩ := hJ.dep hd 4 30 (by kernel_rfl) (by kernel_rfl)
          obtain rfl : x4 = .int .u64 (j : Int) := f4
          have G := hJ.keep
          clear hJ hd hn
          have h1 := HJ.out.2.2.1
          have h2 := HJ.out.2.2.2
          go_simp
          exact HK.out _ _ (Keep.refl _) rfl
        · -- 6
          refine LinStep.plain rfl ?_
          intro QQ bb T ww hn hJ hd K HK
          obtain ⟨x5, t5, f5⟩ := hJ.dep hd 5 31 (by kernel_rfl) (by kernel_rfl)
          obtain rfl : x5 = .int .i64 (j : Int) := f5
          have G := hJ.keep
          clear hJ hd hn
          refine wp_make_bytes _ _ rfl j (by simp [Act.eval, t5]) (by simp [Act.eval, t5]) HJB.out ?_
          intro w9 hk hb9
          exact HK.out _ _ hk (⟨_, rfl, hb9⟩)
        · -- 7
          refine LinStep.plain rfl ?_
          intro QQ bb T ww hn hJ hd K HK
          obtain ⟨x6, t6, f6⟩ := hJ.dep hd 6 32 (by kernel_rfl) (by kernel_rfl)
          replace f6 : ∃ B, x6 = .slice (some ⟨B, 0, none⟩) j j ∧ BytesAt ww B (List.replicate j 0) := f6
          obtain ⟨BM, rfl, hM⟩ := f6
          have G := hJ.keep
          clear hJ hd hn
          have hcv := bytes_back hM j (by simp)
          rw [HZ.out] at hcv
          go_simp
          exact HK.out _ _ (Keep.refl _) rfl
        · -- 8
          refine LinStep.plain rfl ?_
          intro QQ bb T ww hn hJ hd K HK
          obtain ⟨x1, t1, f1⟩ := hJ.dep hd 1 27 (by kernel_rfl) (by kernel_rfl)
          obtain rfl : x1 = .string C := f1
          obtain ⟨x7, t7, f7⟩ := hJ.dep hd 7 33 (by kernel_rfl) (by kernel_rfl)
          obtain rfl : x7 = .string zj := f7
          have G := hJ.keep
          clear hJ hd hn
          have h1 := HCZ.out.1
          have h2 := HCZ.out.2
          go_simp
          exact HK.out _ _ (Keep.refl _) rfl
        · -- 9
          refine LinStep.plain rfl ?_
          intro QQ bb T ww hn hJ hd K HK
          have s10 := (hJ.oldSlot 10 (by kernel_rfl))
          simp only [List.getElem?_toArray, List.getElem?_cons_zero, List.getElem?_cons_succ] at s10
          have G := hJ.keep
          clear hJ hd hn
          go_simp
          exact HK.out _ _ (Keep.refl _) rfl
  case rest =>
    clear hB
    obtain ⟨E', R', U', H', W', O', M', Z', C', hcs, hB, hO, hF, K⟩ := hcut
    replace hB := hB.out
    replace hO := hO.out
    replace hF := hF.out
    obtain ⟨XC, hxc⟩ : ∃ v, X.extract 0 (min X.size 1502) = v := ⟨_, rfl⟩
    obtain ⟨CC, hcc⟩ : ∃ v, C'.extract 0 (min C'.size 1502) = v := ⟨_, rfl⟩
    have HXC := Lib.hid hxc
    have HCC := Lib.hid hcc
    have HCM : Hid (C'.size ≤ maxLen) := Lib.hid (by unfold maxLen; omega)
    clear hxc hcc hcs hds hr hr2 hrb ho b0 b1 b2 b3 b4 b5 b6 b7 b8 f0 f1 f2 f3 f4 f5 f6 f7 f8 o2 o5 o8 hF2 hO2 K2 HNE
    obtain ⟨p0, p1, p2, p3, p4, p5, p6, p7, p8⟩ := fr_cells hF
    obtain ⟨o0, o1, o2, o3, o4, o5, o6, o7, o8⟩ := fr_cells hO
    obtain ⟨b0, b1, b2, b3, b4, b5, b6, b7, b8⟩ := fr_cells hB
    go_upto_region 21 with fail
    refine region_lin (W0 := wc) (listF [fun v ww => v = .agg #[.int .i64 D, .int .i64 S, .bool Tg, .int .i64 P, .int .i64 V, .bool Q, .int .i64 N, .int .i64 Y, .string X], fun v ww => v = .agg #[.int .i64 D, .int .i64 S, .bool Tg, .int .i64 P, .int .i64 V, .bool Q, .int .i64 N, .int .i64 Y, .string XC], fun v ww => v = .agg #[.int .i64 E, .int .i64 R, .bool U, .int .i64 H, .int .i64 W, .bool O, .int .i64 M, .int .i64 Z, .string C], fun v ww => v = .agg #[.int .i64 E', .int .i64 R', .bool U', .int .i64 H', .int .i64 W', .bool O', .int .i64 M', .int .i64 Z', .string C'], fun v ww => v = .agg #[.int .i64 E', .int .i64 R', .bool U', .int .i64 H', .int .i64 W', .bool O', .int .i64 M', .int .i64 Z', .string CC], fun v ww => v = .agg #[.int .i64 D, .int .i64 S, .bool Tg, .int .i64 P, .int .i64 V, .bool Q, .int .i64 N, .int .i64 Y, .string XC, .int .i64 E, .int .i64 R, .bool U, .int .i64 H, .int .i64 W, .bool O, .int .i64 M, .int .i64 Z, .string C, .int .i64 E', .int .i64 R', .bool U', .int .i64 H', .int .i64 W', .bool O', .int .i64 M', .int .i64 Z', .string CC], fun v ww => v = .int .i64 0]) (listF_stable _ ⟨fun _ _ _ _ h => h, fun _ _ _ _ h => h, fun _ _ _ _ h => h, fun _ _ _ _ h => h, fun _ _ _ _ h => h, fun _ _ _ _ h => h, fun _ _ _ _ h => h, trivial⟩) (by kernel_rfl) (by kernel_rfl) (by kernel_rfl) (by kernel_rfl) (Keep.refl _) ?done21 ?steps21
    case done21 =>
      intro T21 wz21 hJ
      obtain ⟨x0, t0, f0⟩ := hJ.fact 0 72 (by decide) (by kernel_rfl)
      obtain rfl : x0 = .agg #[.int .i64 D, .int .i64 S, .bool Tg, .int .i64 P, .int .i64 V, .bool Q, .int .i64 N, .int .i64 Y, .string X] := f0
      obtain ⟨x1, t1, f1⟩ := hJ.fact 1 73 (by decide) (by kernel_rfl)
      obtain rfl : x1 = .agg #[.int .i64 D, .int .i64 S, .bool Tg, .int .i64 P, .int .i64 V, .bool Q, .int .i64 N, .int .i64 Y, .string XC] := f1
      obtain ⟨x2, t2, f2⟩ := hJ.fact 2 74 (by decide) (by kernel_rfl)
      obtain rfl : x2 = .agg #[.int .i64 E, .int .i64 R, .bool U, .int .i64 H, .int .i64 W, .bool O, .int .i64 M, .int .i64 Z, .string C] := f2
      obtain ⟨x3, t3, f3⟩ := hJ.fact 3 75 (by decide) (by kernel_rfl)
      obtain rfl : x3 = .agg #[.int .i64 E', .int .i64 R', .bool U', .int .i64 H', .int .i64 W', .bool O', .int .i64 M', .int .i64 Z', .string C'] := f3
      obtain ⟨x4, t4, f4⟩ := hJ.fact 4 76 (by decide) (by kernel_rfl)
      obtain rfl : x4 = .agg #[.int .i64 E', .int .i64 R', .bool U', .int .i64 H', .int .i64 W', .bool O', .int .i64 M', .int .i64 Z', .string CC] := f4
      obtain ⟨x5, t5, f5⟩ := hJ.fact 5 77 (by decide) (by kernel_rfl)
      obtain rfl : x5 = .agg #[.int .i64 D, .int .i64 S, .bool Tg, .int .i64 P, .int .i64 V, .bool Q, .int .i64 N, .int .i64 Y, .string XC, .int .i64 E, .int .i64 R, .bool U, .int .i64 H, .int .i64 W, .bool O, .int .i64 M, .int .i64 Z, .string C, .int .i64 E', .int .i64 R', .bool U', .int .i64 H', .int .i64 W', .bool O', .int .i64 M', .int .i64 Z', .string CC] := f5
      obtain ⟨x6, t6, f6⟩ := hJ.fact 6 78 (by decide) (by kernel_rfl)
      obtain rfl : x6 = .int .i64 0 := f6
      have hfr := hJ.frame [(72, .agg #[.int .i64 D, .int .i64 S, .bool Tg, .int .i64 P, .int .i64 V, .bool Q, .int .i64 N, .int .i64 Y, .string X]), (73, .agg #[.int .i64 D, .int .i64 S, .bool Tg, .int .i64 P, .int .i64 V, .bool Q, .int .i64 N, .int .i64 Y, .string XC]), (74, .agg #[.int .i64 E, .int .i64 R, .bool U, .int .i64 H, .int .i64 W, .bool O, .int .i64 M, .int .i64 Z, .string C]), (75, .agg #[.int .i64 E', .int .i64 R', .bool U', .int .i64 H', .int .i64 W', .bool O', .int .i64 M', .int .i64 Z', .string C']), (76, .agg #[.int .i64 E', .int .i64 R', .bool U', .int .i64 H', .int .i64 W', .bool O', .int .i64 M', .int .i64 Z', .string CC]), (77, .agg #[.int .i64 D, .int .i64 S, .bool Tg, .int .i64 P, .int .i64 V, .bool Q, .int .i64 N, .int .i64 Y, .string XC, .int .i64 E, .int .i64 R, .bool U, .int .i64 H, .int .i64 W, .bool O, .int .i64 M, .int .i64 Z, .string C, .int .i64 E', .int .i64 R', .bool U', .int .i64 H', .int .i64 W', .bool O', .int .i64 M', .int .i64 Z', .string CC]), (78, .int .i64 0)] (by simp [t0, t1, t2, t3, t4, t5, t6]) (by kernel_rfl)
      have G := hJ.keep
      clear hJ t0 t1 t2 t3 t4 t5 t6
      rw [hfr]
      clear hfr T21
      simp only [List.foldl_cons, List.foldl_nil, List.setIfInBounds_toArray, List.set_cons_zero, List.set_cons_succ]
      have K21 := Lib.hid (K.out.trans G)
      clear G K
      have HX : Hid (∀ j : Nat, j < 3 → ∃ dd dsr dt dp dv dq dn dy dx, ∀ wy : World, (Instr.index 31 (.agg #[.int .i64 D, .int .i64 S, .bool Tg, .int .i64 P, .int .i64 V, .bool Q, .int .i64 N, .int .i64 Y, .string XC, .int .i64 E, .int .i64 R, .bool U, .int .i64 H, .int .i64 W, .bool O, .int .i64 M, .int .i64 Z, .string C, .int .i64 E', .int .i64 R', .bool U', .int .i64 H', .int .i64 W', .bool O', .int .i64 M', .int .i64 Z', .string CC]) (.int .i64 j)).run Try.prog wy = .ok (.agg #[.int .i64 dd, .int .i64 dsr, .bool dt, .int .i64 dp, .int .i64 dv, .bool dq, .int .i64 dn, .int .i64 dy, .string dx]) wy) := Lib.hid (by
        intro j hj
        have : j = 0 ∨ j = 1 ∨ j = 2 := by omega
        rcases this with rfl | rfl | rfl
        · exact ⟨D, S, Tg, P, V, Q, N, Y, XC, fun wy => by kernel_rfl⟩
        · exact ⟨E, R, U, H, W, O, M, Z, C, fun wy => by kernel_rfl⟩
        · exact ⟨E', R', U', H', W', O', M', Z', CC, fun wy => by kernel_rfl⟩)
      clear HXC HCC HXM HCM HI
      go_wp2_with fail
      go_loopw [12, 13, 14, 15, 16, 17, 18, 19, 20, 78] (fun _ _ _ _ _ _ _ _ _ v wr => ∃ i : Nat, i ≤ 3 ∧ v = .int .i64 i ∧ Hid (Keep w wr)) (fun _ _ _ _ _ _ _ _ _ v _ => 3 - (intOf v).toNat)
      case atStart => exact ⟨0, by omega, rfl, K21⟩
      case round =>
        obtain ⟨i, hi, rfl, HKr⟩ := hrel
        by_cases hlt : i < 3
        · obtain ⟨dd, dsr, dt, dp, dv, dq, dn, dy, dx, hidx⟩ := HX.out i hlt
          obtain ⟨t, ht⟩ : ∃ t, Frm.str ⟨dd, dsr, dt, dp, dv, dq, dn, dy, dx⟩ = t := ⟨_, rfl⟩
          obtain ⟨er, he⟩ : ∃ c, Frm.err ⟨dd, dsr, dt, dp, dv, dq, dn, dy, dx⟩ = c := ⟨_, rfl⟩
          obtain ⟨wn, hwn⟩ : ∃ c, Frm.wire ⟨dd, dsr, dt, dp, dv, dq, dn, dy, dx⟩ = c := ⟨_, rfl⟩
          have HT := Lib.hid ht
          have HE := Lib.hid he
          have HW := Lib.hid hwn
          clear ht he hwn
          go_upto_region 24 with fail
          have hy : FrAt (wr.alloc (.cells #[.int .i64 dd, .int .i64 dsr, .bool dt, .int .i64 dp, .int .i64 dv, .bool dq, .int .i64 dn, .int .i64 dy, .string dx] 23)) wr.heap.size dd dsr dt dp dv dq dn dy dx := heap_alloc_new wr _
          have KK := Lib.hid (HKr.out.alloc (.cells #[.int .i64 dd, .int .i64 dsr, .bool dt, .int .i64 dp, .int .i64 dv, .bool dq, .int .i64 dn, .int .i64 dy, .string dx] 23))
          generalize wr.alloc (.cells #[.int .i64 dd, .int .i64 dsr, .bool dt, .int .i64 dp, .int .i64 dv, .bool dq, .int .i64 dn, .int .i64 dy, .string dx] 23) = w4 at *
          generalize wr.heap.size = BY at *
          obtain ⟨c0, c1, c2, c3, c4, c5, c6, c7, c8⟩ := fr_cells hy
          go_upto_region 28 with (first | (go_at_call 11; ((with_reducible refine (encode_is dd dsr dp dv dn dy dt dq dx t er _ HT HE).mono ?_); rintro e' w8 ⟨rfl, kk⟩; have hy := fr_k hy kk; have KK := Lib.hid (KK.out.trans kk); clear kk c0 c1 c2 c3 c4 c5 c6 c7 c8; obtain ⟨c0, c1, c2, c3, c4, c5, c6, c7, c8⟩ := fr_cells hy)) | (go_at_call 12; ((with_reducible refine (refEncode_is dd dsr dp dv dn dy dt dq dx t er _ HT HE).mono ?_); rintro e' w8 ⟨rfl, kk⟩; have hy := fr_k hy kk; have KK := Lib.hid (KK.out.trans kk); clear kk c0 c1 c2 c3 c4 c5 c6 c7 c8; obtain ⟨c0, c1, c2, c3, c4, c5, c6, c7, c8⟩ := fr_cells hy)) | (go_at_call 13; ((with_reducible refine (wire_is dd dsr dp dv dn dy dt dq dx wn er _ HW HE).mono ?_); rintro e' w8 ⟨rfl, kk⟩; have hy := fr_k hy kk; have KK := Lib.hid (KK.out.trans kk); clear kk c0 c1 c2 c3 c4 c5 c6 c7 c8; obtain ⟨c0, c1, c2, c3, c4, c5, c6, c7, c8⟩ := fr_cells hy)) | (go_at_call 14; ((with_reducible refine (refWire_is dd dsr dp dv dn dy dt dq dx wn er _ HW HE).mono ?_); rintro e' w8 ⟨rfl, kk⟩; have hy := fr_k hy kk; have KK := Lib.hid (KK.out.trans kk); clear kk c0 c1 c2 c3 c4 c5 c6 c7 c8; obtain ⟨c0, c1, c2, c3, c4, c5, c6, c7, c8⟩ := fr_cells hy)))
          refine region_lin (W0 := w8) (listF [fun v ww => v = .string t, fun v ww => v = .string t, fun v ww => v = .bool false, fun v ww => v = .bool false, fun v ww => v = .int .i64 er, fun v ww => v = .int .i64 er, fun v ww => v = .bool false, fun v ww => v = .bool false, fun v ww => v = .bool false, fun v ww => v = .int .i64 wn, fun v ww => v = .int .i64 wn, fun v ww => v = .bool false, fun v ww => v = .bool false, fun v ww => v = .bool false, fun v ww => v = .int .i64 er, fun v ww => v = .int .i64 er, fun v ww => v = .bool false, fun v ww => v = .bool false, fun v ww => v = .bool false, fun v ww => v = .agg #[.int .i64 dd, .int .i64 dsr, .bool dt, .int .i64 dp, .int .i64 dv, .bool dq, .int .i64 dn, .int .i64 dy, .string dx], fun v ww => v = .int .i64 er, fun v ww => v = .agg #[.int .i64 dd, .int .i64 dsr, .bool dt, .int .i64 dp, .int .i64 dv, .bool dq, .int .i64 dn, .int .i64 dy, .string dx], fun v ww => v = .int .i64 er, fun v ww => v = .bool false, fun v ww => v = .bool false]) (listF_stable _ ⟨fun _ _ _ _ h => h, fun _ _ _ _ h => h, fun _ _ _ _ h => h, fun _ _ _ _ h => h, fun _ _ _ _ h => h, fun _ _ _ _ h => h, fun _ _ _ _ h => h, fun _ _ _ _ h => h, fun _ _ _ _ h => h, fun _ _ _ _ h => h, fun _ _ _ _ h => h, fun _ _ _ _ h => h, fun _ _ _ _ h => h, fun _ _ _ _ h => h, fun _ _ _ _ h => h, fun _ _ _ _ h => h, fun _ _ _ _ h => h, fun _ _ _ _ h => h, fun _ _ _ _ h => h, fun _ _ _ _ h => h, fun _ _ _ _ h => h, fun _ _ _ _ h => h, fun _ _ _ _ h => h, fun _ _ _ _ h => h, fun _ _ _ _ h => h, trivial⟩) (by kernel_rfl) (by kernel_rfl) (by kernel_rfl) (by kernel_rfl) (Keep.refl _) ?done28 ?steps28
          case done28 =>
            intro T28 wz28 hJ
            obtain ⟨x0, t0, f0⟩ := hJ.fact 0 101 (by decide) (by kernel_rfl)
            obtain rfl : x0 = .string t := f0
            obtain ⟨x1, t1, f1⟩ := hJ.fact 1 102 (by decide) (by kernel_rfl)
            obtain rfl : x1 = .string t := f1
            obtain ⟨x2, t2, f2⟩ := hJ.fact 2 103 (by decide) (by kernel_rfl)
            obtain rfl : x2 = .bool false := f2
            obtain ⟨x3, t3, f3⟩ := hJ.fact 3 104 (by decide) (by kernel_rfl)
            obtain rfl : x3 = .bool false := f3
            obtain ⟨x4, t4, f4⟩ := hJ.fact 4 105 (by decide) (by kernel_rfl)
            obtain rfl : x4 = .int .i64 er := f4
            obtain ⟨x5, t5, f5⟩ := hJ.fact 5 106 (by decide) (by kernel_rfl)
            obtain rfl : x5 = .int .i64 er := f5
            obtain ⟨x6, t6, f6⟩ := hJ.fact 6 107 (by decide) (by kernel_rfl)
            obtain rfl : x6 = .bool false := f6
            obtain ⟨x7, t7, f7⟩ := hJ.fact 7 108 (by decide) (by kernel_rfl)
            obtain rfl : x7 = .bool false := f7
            obtain ⟨x8, t8, f8⟩ := hJ.fact 8 109 (by decide) (by kernel_rfl)
            obtain rfl : x8 = .bool false := f8
            obtain ⟨x9, t9, f9⟩ := hJ.fact 9 110 (by decide) (by kernel_rfl)
            obtain rfl : x9 = .int .i64 wn := f9
            obtain ⟨x10, t10, f10⟩ := hJ.fact 10 111 (by decide) (by kernel_rfl)
            obtain rfl : x10 = .int .i64 wn := f10
            obtain ⟨x11, t11, f11⟩ := hJ.fact 11 112 (by decide) (by kernel_rfl)
            obtain rfl : x11 = .bool false := f11
            obtain ⟨x12, t12, f12⟩ := hJ.fact 12 113 (by decide) (by kernel_rfl)
            obtain rfl : x12 = .bool false := f12
            obtain ⟨x13, t13, f13⟩ := hJ.fact 13 114 (by decide) (by kernel_rfl)
            obtain rfl : x13 = .bool false := f13
            obtain ⟨x14, t14, f14⟩ := hJ.fact 14 115 (by decide) (by kernel_rfl)
            obtain rfl : x14 = .int .i64 er := f14
            obtain ⟨x15, t15, f15⟩ := hJ.fact 15 116 (by decide) (by kernel_rfl)
            obtain rfl : x15 = .int .i64 er := f15
            obtain ⟨x16, t16, f16⟩ := hJ.fact 16 117 (by decide) (by kernel_rfl)
            obtain rfl : x16 = .bool false := f16
            obtain ⟨x17, t17, f17⟩ := hJ.fact 17 118 (by decide) (by kernel_rfl)
            obtain rfl : x17 = .bool false := f17
            obtain ⟨x18, t18, f18⟩ := hJ.fact 18 119 (by decide) (by kernel_rfl)
            obtain rfl : x18 = .bool false := f18
            obtain ⟨x19, t19, f19⟩ := hJ.fact 19 120 (by decide) (by kernel_rfl)
            obtain rfl : x19 = .agg #[.int .i64 dd, .int .i64 dsr, .bool dt, .int .i64 dp, .int .i64 dv, .bool dq, .int .i64 dn, .int .i64 dy, .string dx] := f19
            obtain ⟨x20, t20, f20⟩ := hJ.fact 20 121 (by decide) (by kernel_rfl)
            obtain rfl : x20 = .int .i64 er := f20
            obtain ⟨x21, t21, f21⟩ := hJ.fact 21 122 (by decide) (by kernel_rfl)
            obtain rfl : x21 = .agg #[.int .i64 dd, .int .i64 dsr, .bool dt, .int .i64 dp, .int .i64 dv, .bool dq, .int .i64 dn, .int .i64 dy, .string dx] := f21
            obtain ⟨x22, t22, f22⟩ := hJ.fact 22 123 (by decide) (by kernel_rfl)
            obtain rfl : x22 = .int .i64 er := f22
            obtain ⟨x23, t23, f23⟩ := hJ.fact 23 124 (by decide) (by kernel_rfl)
            obtain rfl : x23 = .bool false := f23
            obtain ⟨x24, t24, f24⟩ := hJ.fact 24 125 (by decide) (by kernel_rfl)
            obtain rfl : x24 = .bool false := f24
            have hfr := hJ.frame [(101, .string t), (102, .string t), (103, .bool false), (104, .bool false), (105, .int .i64 er), (106, .int .i64 er), (107, .bool false), (108, .bool false), (109, .bool false), (110, .int .i64 wn), (111, .int .i64 wn), (112, .bool false), (113, .bool false), (114, .bool false), (115, .int .i64 er), (116, .int .i64 er), (117, .bool false), (118, .bool false), (119, .bool false), (120, .agg #[.int .i64 dd, .int .i64 dsr, .bool dt, .int .i64 dp, .int .i64 dv, .bool dq, .int .i64 dn, .int .i64 dy, .string dx]), (121, .int .i64 er), (122, .agg #[.int .i64 dd, .int .i64 dsr, .bool dt, .int .i64 dp, .int .i64 dv, .bool dq, .int .i64 dn, .int .i64 dy, .string dx]), (123, .int .i64 er), (124, .bool false), (125, .bool false)] (by simp [t0, t1, t2, t3, t4, t5, t6, t7, t8, t9, t10, t11, t12, t13, t14, t15, t16, t17, t18, t19, t20, t21, t22, t23, t24]) (by kernel_rfl)
            have G := hJ.keep
            clear hJ t0 t1 t2 t3 t4 t5 t6 t7 t8 t9 t10 t11 t12 t13 t14 t15 t16 t17 t18 t19 t20 t21 t22 t23 t24
            rw [hfr]
            clear hfr T28
            simp only [List.foldl_cons, List.foldl_nil, List.setIfInBounds_toArray, List.set_cons_zero, List.set_cons_succ]
            have KZ := Lib.hid (KK.out.trans G)
            clear G KK hy c0 c1 c2 c3 c4 c5 c6 c7 c8
            go_wp2
            go_roundw
            case rel => exact ⟨i + 1, by omega, by go_num, KZ⟩
            case measure => simp [intOf]; omega
          case steps28 =>
            refine LinSteps.cons (k := 0) ?_ (LinSteps.cons (k := 1) ?_ (LinSteps.cons (k := 2) ?_ (LinSteps.cons (k := 3) ?_ (LinSteps.cons (k := 4) ?_ (LinSteps.cons (k := 5) ?_ (LinSteps.cons (k := 6) ?_ (LinSteps.cons (k := 7) ?_ (LinSteps.cons (k := 8) ?_ (LinSteps.cons (k := 9) ?_ (LinSteps.cons (k := 10) ?_ (LinSteps.cons (k := 11) ?_ (LinSteps.cons (k := 12) ?_ (LinSteps.cons (k := 13) ?_ (LinSteps.cons (k := 14) ?_ (LinSteps.cons (k := 15) ?_ (LinSteps.cons (k := 16) ?_ (LinSteps.cons (k := 17) ?_ (LinSteps.cons (k := 18) ?_ (LinSteps.cons (k := 19) ?_ (LinSteps.cons (k := 20) ?_ (LinSteps.cons (k := 21) ?_ (LinSteps.cons (k := 22) ?_ (LinSteps.cons (k := 23) ?_ (LinSteps.cons (k := 24) ?_ (LinSteps.nil)))))))))))))))))))))))))
            · -- 0
              refine LinStep.plain rfl ?_
              intro QQ bb T ww hn hJ hd K HK
              have s13 := (hJ.oldSlot 13 (by kernel_rfl))
              simp only [List.getElem?_toArray, List.getElem?_cons_zero, List.getElem?_cons_succ] at s13
              have G := hJ.keep
              clear hJ hd hn
              go_simp
              exact HK.out _ _ (Keep.refl _) rfl
            · -- 1
              refine LinStep.plain rfl ?_
              intro QQ bb T ww hn hJ hd K HK
              have s15 := (hJ.oldSlot 15 (by kernel_rfl))
              simp only [List.getElem?_toArray, List.getElem?_cons_zero, List.getElem?_cons_succ] at s15
              have G := hJ.keep
              clear hJ hd hn
              go_simp
              exact HK.out _ _ (Keep.refl _) rfl
            · -- 2
              refine LinStep.plain rfl ?_
              intro QQ bb T ww hn hJ hd K HK
              obtain ⟨x0, t0, f0⟩ := hJ.dep hd 0 101 (by kernel_rfl) (by kernel_rfl)
              obtain rfl : x0 = .string t := f0
              obtain ⟨x1, t1, f1⟩ := hJ.dep hd 1 102 (by kernel_rfl) (by kernel_rfl)
              obtain rfl : x1 = .string t := f1
              have G := hJ.keep
              clear hJ hd hn
              go_simp
              exact HK.out _ _ (Keep.refl _) rfl
            · -- 3
              refine LinStep.plain rfl ?_
              intro QQ bb T ww hn hJ hd K HK
              obtain ⟨x2, t2, f2⟩ := hJ.dep hd 2 103 (by kernel_rfl) (by kernel_rfl)
              obtain rfl : x2 = .bool false := f2
              have G := hJ.keep
              clear hJ hd hn
              go_simp
              exact HK.out _ _ (Keep.refl _) rfl
            · -- 4
              refine LinStep.guarded 3 104 false rfl (by kernel_rfl) (by kernel_rfl) (fun _ _ h => h) ?_
              intro QQ bb T ww hn hJ hd K HK
              have s14 := (hJ.oldSlot 14 (by kernel_rfl))
              simp only [List.getElem?_toArray, List.getElem?_cons_zero, List.getElem?_cons_succ] at s14
              have G := hJ.keep
              clear hJ hd hn
              go_simp
              exact HK.out _ _ (Keep.refl _) rfl
            · -- 5
              refine LinStep.guarded 3 104 false rfl (by kernel_rfl) (by kernel_rfl) (fun _ _ h => h) ?_
              intro QQ bb T ww hn hJ hd K HK
              have s16 := (hJ.oldSlot 16 (by kernel_rfl))
              simp only [List.getElem?_toArray, List.getElem?_cons_zero, List.getElem?_cons_succ] at s16
              have G := hJ.keep
              clear hJ hd hn
              go_simp
              exact HK.out _ _ (Keep.refl _) rfl
            · -- 6
              refine LinStep.guarded 3 104 false rfl (by kernel_rfl) (by kernel_rfl) (fun _ _ h => h) ?_
              intro QQ bb T ww hn hJ hd K HK
              obtain ⟨x4, t4, f4⟩ := hJ.dep hd 4 105 (by kernel_rfl) (by kernel_rfl)
              obtain rfl : x4 = .int .i64 er := f4
              obtain ⟨x5, t5, f5⟩ := hJ.dep hd 5 106 (by kernel_rfl) (by kernel_rfl)
              obtain rfl : x5 = .int .i64 er := f5
              have G := hJ.keep
              clear hJ hd hn
              go_simp
              exact HK.out _ _ (Keep.refl _) rfl
            · -- 7
              refine LinStep.plain rfl ?_
              intro QQ bb T ww hn hJ hd K HK
              obtain ⟨x3, t3, f3⟩ := hJ.dep hd 3 104 (by kernel_rfl) (by kernel_rfl)
              obtain rfl : x3 = .bool false := f3
              obtain ⟨x6, t6, f6⟩ := hJ.dep hd 6 107 (by kernel_rfl) (by kernel_rfl)
              obtain rfl : x6 = .bool false := f6
              have G := hJ.keep
              clear hJ hd hn
              go_simp
              exact HK.out _ _ (Keep.refl _) rfl
            · -- 8
              refine LinStep.plain rfl ?_
              intro QQ bb T ww hn hJ hd K HK
              obtain ⟨x7, t7, f7⟩ := hJ.dep hd 7 108 (by kernel_rfl) (by kernel_rfl)
              obtain rfl : x7 = .bool false := f7
              have G := hJ.keep
              clear hJ hd hn
              go_simp
              exact HK.out _ _ (Keep.refl _) rfl
            · -- 9
              refine LinStep.guarded 8 109 false rfl (by kernel_rfl) (by kernel_rfl) (fun _ _ h => h) ?_
              intro QQ bb T ww hn hJ hd K HK
              have s17 := (hJ.oldSlot 17 (by kernel_rfl))
              simp only [List.getElem?_toArray, List.getElem?_cons_zero, List.getElem?_cons_succ] at s17
              have G := hJ.keep
              clear hJ hd hn
              go_simp
              exact HK.out _ _ (Keep.refl _) rfl
            · -- 10
              refine LinStep.guarded 8 109 false rfl (by kernel_rfl) (by kernel_rfl) (fun _ _ h => h) ?_
              intro QQ bb T ww hn hJ hd K HK
              have s19 := (hJ.oldSlot 19 (by kernel_rfl))
              simp only [List.getElem?_toArray, List.getElem?_cons_zero, List.getElem?_cons_succ] at s19
              have G := hJ.keep
              clear hJ hd hn
              go_simp
              exact HK.out _ _ (Keep.refl _) rfl
            · -- 11
              refine LinStep.guarded 8 109 false rfl (by kernel_rfl) (by kernel_rfl) (fun _ _ h => h) ?_
              intro QQ bb T ww hn hJ hd K HK
              obtain ⟨x9, t9, f9⟩ := hJ.dep hd 9 110 (by kernel_rfl) (by kernel_rfl)
              obtain rfl : x9 = .int .i64 wn := f9
              obtain ⟨x10, t10, f10⟩ := hJ.dep hd 10 111 (by kernel_rfl) (by kernel_rfl)
              obtain rfl : x10 = .int .i64 wn := f10
              have G := hJ.keep
              clear hJ hd hn
              go_simp
              exact HK.out _ _ (Keep.refl _) rfl
            · -- 12
              refine LinStep.plain rfl ?_
              intro QQ bb T ww hn hJ hd K HK
              obtain ⟨x8, t8, f8⟩ := hJ.dep hd 8 109 (by kernel_rfl) (by kernel_rfl)
              obtain rfl : x8 = .bool false := f8
              obtain ⟨x11, t11, f11⟩ := hJ.dep hd 11 112 (by kernel_rfl) (by kernel_rfl)
              obtain rfl : x11 = .bool false := f11
              have G := hJ.keep
              clear hJ hd hn
              go_simp
              exact HK.out _ _ (Keep.refl _) rfl
            · -- 13
              refine LinStep.plain rfl ?_
              intro QQ bb T ww hn hJ hd K HK
              obtain ⟨x12, t12, f12⟩ := hJ.dep hd 12 113 (by kernel_rfl) (by kernel_rfl)
              obtain rfl : x12 = .bool false := f12
              have G := hJ.keep
              clear hJ hd hn
              go_simp
              exact HK.out _ _ (Keep.refl _) rfl
            · -- 14
              refine LinStep.guarded 13 114 false rfl (by kernel_rfl) (by kernel_rfl) (fun _ _ h => h) ?_
              intro QQ bb T ww hn hJ hd K HK
              have s18 := (hJ.oldSlot 18 (by kernel_rfl))
              simp only [List.getElem?_toArray, List.getElem?_cons_zero, List.getElem?_cons_succ] at s18
              have G := hJ.keep
              clear hJ hd hn
              go_simp
              exact HK.out _ _ (Keep.refl _) rfl
            · -- 15
              refine LinStep.guarded 13 114 false rfl (by kernel_rfl) (by kernel_rfl) (fun _ _ h => h) ?_
              intro QQ bb T ww hn hJ hd K HK
              have s20 := (hJ.oldSlot 20 (by kernel_rfl))
              simp only [List.getElem?_toArray, List.getElem?_cons_zero, List.getElem?_cons_succ] at s20
              have G := hJ.keep
              clear hJ hd hn
              go_simp
              exact HK.out _ _ (Keep.refl _) rfl
            · -- 16
              refine LinStep.guarded 13 114 false rfl (by kernel_rfl) (by kernel_rfl) (fun _ _ h => h) ?_
              intro QQ bb T ww hn hJ hd K HK
              obtain ⟨x14, t14, f14⟩ := hJ.dep hd 14 115 (by kernel_rfl) (by kernel_rfl)
              obtain rfl : x14 = .int .i64 er := f14
              obtain ⟨x15, t15, f15⟩ := hJ.dep hd 15 116 (by kernel_rfl) (by kernel_rfl)
              obtain rfl : x15 = .int .i64 er := f15
              have G := hJ.keep
              clear hJ hd hn
              go_simp
              exact HK.out _ _ (Keep.refl _) rfl
            · -- 17
              refine LinStep.plain rfl ?_
              intro QQ bb T ww hn hJ hd K HK
              obtain ⟨x13, t13, f13⟩ := hJ.dep hd 13 114 (by kernel_rfl) (by kernel_rfl)
              obtain rfl : x13 = .bool false := f13
              obtain ⟨x16, t16, f16⟩ := hJ.dep hd 16 117 (by kernel_rfl) (by kernel_rfl)
              obtain rfl : x16 = .bool false := f16
              have G := hJ.keep
              clear hJ hd hn
              go_simp
              exact HK.out _ _ (Keep.refl _) rfl
            · -- 18
              refine LinStep.plain rfl ?_
              intro QQ bb T ww hn hJ hd K HK
              obtain ⟨x17, t17, f17⟩ := hJ.dep hd 17 118 (by kernel_rfl) (by kernel_rfl)
              obtain rfl : x17 = .bool false := f17
              have G := hJ.keep
              clear hJ hd hn
              go_simp
              exact HK.out _ _ (Keep.refl _) rfl
            · -- 19
              refine LinStep.guarded 18 119 false rfl (by kernel_rfl) (by kernel_rfl) (fun _ _ h => h) ?_
              intro QQ bb T ww hn hJ hd K HK
              have s12 := (hJ.oldSlot 12 (by kernel_rfl))
              simp only [List.getElem?_toArray, List.getElem?_cons_zero, List.getElem?_cons_succ] at s12
              have G := hJ.keep
              clear hJ hd hn
              have k0 := G.some c0
              have k1 := G.some c1
              have k2 := G.some c2
              have k3 := G.some c3
              have k4 := G.some c4
              have k5 := G.some c5
              have k6 := G.some c6
              have k7 := G.some c7
              have k8 := G.some c8
              go_simp
              exact HK.out _ _ (Keep.refl _) rfl
            · -- 20
              refine LinStep.guarded 18 119 false rfl (by kernel_rfl) (by kernel_rfl) (fun _ _ h => h) ?_
              intro QQ bb T ww hn hJ hd K HK
              obtain ⟨x19, t19, f19⟩ := hJ.dep hd 19 120 (by kernel_rfl) (by kernel_rfl)
              obtain rfl : x19 = .agg #[.int .i64 dd, .int .i64 dsr, .bool dt, .int .i64 dp, .int .i64 dv, .bool dq, .int .i64 dn, .int .i64 dy, .string dx] := f19
              have G := hJ.keep
              clear hJ hd hn
              go_wp2_with (go_at_call 15; ((with_reducible refine (check_is dd dsr dp dv dn dy dt dq dx er _ HE).mono ?_); rintro e' w9 ⟨rfl, hk⟩))
              exact HK.out _ _ hk rfl
            · -- 21
              refine LinStep.guarded 18 119 false rfl (by kernel_rfl) (by kernel_rfl) (fun _ _ h => h) ?_
              intro QQ bb T ww hn hJ hd K HK
              have s12 := (hJ.oldSlot 12 (by kernel_rfl))
              simp only [List.getElem?_toArray, List.getElem?_cons_zero, List.getElem?_cons_succ] at s12
              have G := hJ.keep
              clear hJ hd hn
              have k0 := G.some c0
              have k1 := G.some c1
              have k2 := G.some c2
              have k3 := G.some c3
              have k4 := G.some c4
              have k5 := G.some c5
              have k6 := G.some c6
              have k7 := G.some c7
              have k8 := G.some c8
              go_simp
              exact HK.out _ _ (Keep.refl _) rfl
            · -- 22
              refine LinStep.guarded 18 119 false rfl (by kernel_rfl) (by kernel_rfl) (fun _ _ h => h) ?_
              intro QQ bb T ww hn hJ hd K HK
              obtain ⟨x21, t21, f21⟩ := hJ.dep hd 21 122 (by kernel_rfl) (by kernel_rfl)
              obtain rfl : x21 = .agg #[.int .i64 dd, .int .i64 dsr, .bool dt, .int .i64 dp, .int .i64 dv, .bool dq, .int .i64 dn, .int .i64 dy, .string dx] := f21
              have G := hJ.keep
              clear hJ hd hn
              go_wp2_with (go_at_call 16; ((with_reducible refine (refCheck_is dd dsr dp dv dn dy dt dq dx er _ HE).mono ?_); rintro e' w9 ⟨rfl, hk⟩))
              exact HK.out _ _ hk rfl
            · -- 23
              refine LinStep.guarded 18 119 false rfl (by kernel_rfl) (by kernel_rfl) (fun _ _ h => h) ?_
              intro QQ bb T ww hn hJ hd K HK
              obtain ⟨x20, t20, f20⟩ := hJ.dep hd 20 121 (by kernel_rfl) (by kernel_rfl)
              obtain rfl : x20 = .int .i64 er := f20
              obtain ⟨x22, t22, f22⟩ := hJ.dep hd 22 123 (by kernel_rfl) (by kernel_rfl)
              obtain rfl : x22 = .int .i64 er := f22
              have G := hJ.keep
              clear hJ hd hn
              go_simp
              exact HK.out _ _ (Keep.refl _) rfl
            · -- 24
              refine LinStep.plain rfl ?_
              intro QQ bb T ww hn hJ hd K HK
              obtain ⟨x18, t18, f18⟩ := hJ.dep hd 18 119 (by kernel_rfl) (by kernel_rfl)
              obtain rfl : x18 = .bool false := f18
              obtain ⟨x23, t23, f23⟩ := hJ.dep hd 23 124 (by kernel_rfl) (by kernel_rfl)
              obtain rfl : x23 = .bool false := f23
              have G := hJ.keep
              clear hJ hd hn
              go_simp
              exact HK.out _ _ (Keep.refl _) rfl
        · obtain rfl : i = 3 := by omega
          go_wp2_with (go_at_call 17; ((with_reducible refine (works_any _).mono ?_); rintro e' w7 ⟨rfl, k7⟩))
          go_ret
          exact ⟨rfl, HKr.out.trans k7⟩
    case steps21 =>
      refine LinSteps.cons (k := 0) ?_ (LinSteps.cons (k := 1) ?_ (LinSteps.cons (k := 2) ?_ (LinSteps.cons (k := 3) ?_ (LinSteps.cons (k := 4) ?_ (LinSteps.cons (k := 5) ?_ (LinSteps.cons (k := 6) ?_ (LinSteps.nil)))))))
      · -- 0
        refine LinStep.plain rfl ?_
        intro QQ bb T ww hn hJ hd K HK
        have s4 := (hJ.oldSlot 4 (by kernel_rfl))
        simp only [List.getElem?_toArray, List.getElem?_cons_zero, List.getElem?_cons_succ] at s4
        have G := hJ.keep
        clear hJ hd hn
        have k0 := G.some p0
        have k1 := G.some p1
        have k2 := G.some p2
        have k3 := G.some p3
        have k4 := G.some p4
        have k5 := G.some p5
        have k6 := G.some p6
        have k7 := G.some p7
        have k8 := G.some p8
        go_simp
        exact HK.out _ _ (Keep.refl _) rfl
      · -- 1
        refine LinStep.plain rfl ?_
        intro QQ bb T ww hn hJ hd K HK
        obtain ⟨x0, t0, f0⟩ := hJ.dep hd 0 72 (by kernel_rfl) (by kernel_rfl)
        obtain rfl : x0 = .agg #[.int .i64 D, .int .i64 S, .bool Tg, .int .i64 P, .int .i64 V, .bool Q, .int .i64 N, .int .i64 Y, .string X] := f0
        have G := hJ.keep
        clear hJ hd hn
        go_wp2_with (go_at_call 10; ((with_reducible refine (cut_is D S P V N Y Tg Q X XC _ HXM.out HXC).mono ?_); rintro e' w9 ⟨rfl, hk⟩))
        exact HK.out _ _ hk rfl
      · -- 2
        refine LinStep.plain rfl ?_
        intro QQ bb T ww hn hJ hd K HK
        have s9 := (hJ.oldSlot 9 (by kernel_rfl))
        simp only [List.getElem?_toArray, List.getElem?_cons_zero, List.getElem?_cons_succ] at s9
        have G := hJ.keep
        clear hJ hd hn
        have k0 := G.some o0
        have k1 := G.some o1
        have k2 := G.some o2
        have k3 := G.some o3
        have k4 := G.some o4
        have k5 := G.some o5
        have k6 := G.some o6
        have k7 := G.some o7
        have k8 := G.some o8
        go_simp
        exact HK.out _ _ (Keep.refl _) rfl
      · -- 3
        refine LinStep.plain rfl ?_
        intro QQ bb T ww hn hJ hd K HK
        have s10 := (hJ.oldSlot 10 (by kernel_rfl))
        simp only [List.getElem?_toArray, List.getElem?_cons_zero, List.getElem?_cons_succ] at s10
        have G := hJ.keep
        clear hJ hd hn
        have k0 := G.some b0
        have k1 := G.some b1
        have k2 := G.some b2
        have k3 := G.some b3
        have k4 := G.some b4
        have k5 := G.some b5
        have k6 := G.some b6
        have k7 := G.some b7
        have k8 := G.some b8
        go_simp
        exact HK.out _ _ (Keep.refl _) rfl
      · -- 4
        refine LinStep.plain rfl ?_
        intro QQ bb T ww hn hJ hd K HK
        obtain ⟨x3, t3, f3⟩ := hJ.dep hd 3 75 (by kernel_rfl) (by kernel_rfl)
        obtain rfl : x3 = .agg #[.int .i64 E', .int .i64 R', .bool U', .int .i64 H', .int .i64 W', .bool O', .int .i64 M', .int .i64 Z', .string C'] := f3
        have G := hJ.keep
        clear hJ hd hn
        go_wp2_with (go_at_call 10; ((with_reducible refine (cut_is E' R' H' W' M' Z' U' O' C' CC _ HCM.out HCC).mono ?_); rintro e' w9 ⟨rfl, hk⟩))
        exact HK.out _ _ hk rfl
      · -- 5
        refine LinStep.plain rfl ?_
        intro QQ bb T ww hn hJ hd K HK
        obtain ⟨x1, t1, f1⟩ := hJ.dep hd 1 73 (by kernel_rfl) (by kernel_rfl)
        obtain rfl : x1 = .agg #[.int .i64 D, .int .i64 S, .bool Tg, .int .i64 P, .int .i64 V, .bool Q, .int .i64 N, .int .i64 Y, .string XC] := f1
        obtain ⟨x2, t2, f2⟩ := hJ.dep hd 2 74 (by kernel_rfl) (by kernel_rfl)
        obtain rfl : x2 = .agg #[.int .i64 E, .int .i64 R, .bool U, .int .i64 H, .int .i64 W, .bool O, .int .i64 M, .int .i64 Z, .string C] := f2
        obtain ⟨x4, t4, f4⟩ := hJ.dep hd 4 76 (by kernel_rfl) (by kernel_rfl)
        obtain rfl : x4 = .agg #[.int .i64 E', .int .i64 R', .bool U', .int .i64 H', .int .i64 W', .bool O', .int .i64 M', .int .i64 Z', .string CC] := f4
        have G := hJ.keep
        clear hJ hd hn
        go_simp
        exact HK.out _ _ (Keep.refl _) rfl
      · -- 6
        refine LinStep.plain rfl ?_
        intro QQ bb T ww hn hJ hd K HK
        have G := hJ.keep
        clear hJ hd hn
        go_simp
        exact HK.out _ _ (Keep.refl _) rfl
end Go.Proofs.Ytmgnmkdjphnaoaa
