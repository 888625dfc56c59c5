/- MergeDamage. -/
import Derived.Test.YtgejpbgpgklimaaMDamM
import Derived.Test.YtgejpbgpgklimaaMWorks
import Derived.Test.YtgejpbgpgklimaaMVar
namespace Go.Proofs.Ytgejpbgpgklimaa
open Go Go.RowKit

set_option maxRecDepth 100000 in
set_option maxHeartbeats 4000000 in
theorem lawDamage_any (x : ByteArray) (L g : Int) (V : Value) (gs : List Int) (a0 p0 : Nat) (A P : Int) (w : World) (hL : 0 ≤ L ∧ L < 65536) (hg : 0 ≤ g ∧ g < 256) (hx : x.size ≤ maxLen) (hb : BytesL gs) (hV : BytesIn w V gs) (hA : A = a0) (ha : a0 < 65536) (hP : P = p0) (hp : p0 < 4294967296) :
    Calls Try.prog 8 #[.agg #[.string x, .int .u16 L, .int .u8 g, V], .int .u16 A, .int .u32 P] w (Res (.bool true) w) := by
  obtain ⟨v0, len, cap, rfl⟩ := bytes_slice hV
  obtain ⟨s, hs⟩ : ∃ s, frmD x L = s := ⟨_, rfl⟩
  obtain ⟨n, hn⟩ : ∃ n : Int, g % 4 = n := ⟨_, rfl⟩
  obtain ⟨cuts, hc⟩ : ∃ c, offsD gs x L 30 = c := ⟨_, rfl⟩
  have hW : Whole s n cuts := by rw [← hs, ← hc]; exact Whole.of (frmD_whole x L) (by omega) (offsD_ok hb x L 30)
  have HPC : Hid (pcsD gs x L g 30 = pcsL s n cuts) := Lib.hid (by unfold pcsD; rw [hs, hn, hc])
  clear hs hn hc
  have hpl := pcsL_length s n cuts
  obtain ⟨K, hK⟩ : ∃ K, cuts.length = K := ⟨_, rfl⟩
  have hK24 := okCuts_len hW.ok (by have := hW.high; omega)
  rw [hK] at hK24 hpl
  have HV := Lib.hid hV
  have HB := Lib.hid hb
  have HX := Lib.hid (And.intro hL (And.intro hg hx))
  clear hV hb
  obtain ⟨b1, hb1⟩ : ∃ b, (pcAt s n cuts K).st = b := ⟨_, rfl⟩
  obtain ⟨c1, hc1⟩ : ∃ c, (pcAt s n cuts K).cnt = c := ⟨_, rfl⟩
  obtain ⟨was, hwas⟩ : ∃ d, (pcAt s n cuts K).data = d := ⟨_, rfl⟩
  have hpK : pcAt s n cuts K = ⟨b1, n, c1, was⟩ := by rw [← hb1, ← hc1, ← hwas]; rfl
  have hws : 64 ≤ was.size ∧ was.size ≤ 1522 := by
    have := (okP_iff.1 (pc_ok hW (k := K) (by omega))).2.2.2
    rwa [hwas] at this
  obtain ⟨e8, he8⟩ : ∃ e : Nat, 8 * was.size = e := ⟨_, rfl⟩
  obtain ⟨j, hj⟩ : ∃ j : Nat, a0 % e8 = j := ⟨_, rfl⟩
  have hjb : j < e8 := by rw [← hj]; exact Nat.mod_lt _ (by omega)
  have hje : j ≤ 1000000 := by omega
  obtain ⟨fl, hfl⟩ : ∃ f, flipS was j p0 = f := ⟨_, rfl⟩
  have hfs : fl.size = was.size := by rw [← hfl, flipS_size]
  have HFL := Lib.hid hfl
  obtain ⟨q, hq⟩ : ∃ q : Nat, K + 1 = q := ⟨_, rfl⟩
  have hKq : K < q := by omega
  have hq2 : (q : Int) - 1 = (K : Int) := by omega
  have hm1 : wrap64 (8 * (was.size : Int)) = (e8 : Int) := by unfold wrap64; omega
  have hm2 : (a0 : Int).tmod (e8 : Int) = (j : Int) := by rw [Int.tmod_eq_emod_of_nonneg (by omega), ← hj]; exact (Int.natCast_emod a0 e8).symm
  have hm8 : (a0 : Int) % (8 * (was.size : Int)) = (j : Int) := by rw [show 8 * (was.size : Int) = (e8 : Int) by omega, ← hj]; exact (Int.natCast_emod a0 e8).symm
  have hm3 : IntKind.i64.wrap (a0 : Int) = (a0 : Int) := IntWalk.i64_in _ (by omega)
  have hm4 : IntKind.i64.wrap (j : Int) = (j : Int) := IntWalk.i64_in _ (by omega)
  subst hA hP
  clear he8 hj
  go_enter Try.func8, Try.ntmps8
  go_upto_region 3 with (go_at_call 16; ((with_reducible refine (works_any _).mono ?_); rintro e' w1 ⟨rfl, k1⟩))
  have hd1 := keepRow k1 (heap_alloc_new w (.cells #[.string x, .int .u16 L, .int .u8 g, .slice v0 len cap] 25))
  obtain ⟨d0, d1, d2, d3⟩ := dr_cells (show DrT w1 w.heap.size x L g _ from hd1)
  go_upto_region 4 with (go_at_call 18; ((with_reducible refine (pieces_of x L g _ gs 30 30 _ _ HX.out.1 HX.out.2.1 HX.out.2.2 HB.out (HV.out.keep (((Keep.refl w).alloc _).trans k1)) rfl (by omega) HPC).mono ?_); rintro e' w2 ⟨u, rfl, ho, k2⟩))
  have K2 : Hid (Keep w w2) := Lib.hid ((((Keep.refl w).alloc _).trans k1).trans k2)
  obtain ⟨gb, cap1, rfl, hgb, hpc⟩ := own_any ho (by rw [hpl]; omega)
  rw [hpl, hq] at ho ⊢
  have hgb2 : w.heap.size ≤ gb := Nat.le_trans (((Keep.refl w).alloc (.cells #[.string x, .int .u16 L, .int .u8 g, .slice v0 len cap] 25)).trans k1).size hgb
  have hcK := hpc K _ (pcsL_get s n cuts K (by omega))
  rw [hpK] at hcK
  obtain ⟨p0', p1', p2', p3'⟩ := hcK
  dsimp only at p3'
  have pf := own_free ho (K * 4 + 3)
  have hgl := own_lt ho
  go_upto_region 7 with (go_at_call 19; ((with_reducible refine (flip_is was fl _ _ j p0 _ (by omega) rfl hje rfl hp HFL).mono ?_); rintro e' w3 ⟨rfl, k3⟩; have p3' := k3.some p3'; have pf := (k3.frozen (o := K * 4 + 3) hgl).trans pf))
  have ho3 := ho.keep k3
  have hrd : ∀ i, i ≤ K → PcIn (w3.setCell ⟨gb, K * 4 + 3, none⟩ (.string fl)) gb (i * 4) (pcF s n cuts fl i) := fun i hi => by
    unfold pcF
    have h1 := (hpc i _ (pcsL_get s n cuts i (by omega))).keep k3
    split
    · obtain rfl : i = K := by omega
      have h2 : PcIn w3 gb (i * 4) ⟨(pcAt s n cuts i).st, n, (pcAt s n cuts i).cnt, (pcAt s n cuts i).data⟩ := h1
      exact h2.data fl
    · exact h1.set _ _ (by omega)
  have K3 : Hid (Keep w (w3.setCell ⟨gb, K * 4 + 3, none⟩ (.string fl))) := Lib.hid ((K2.out.trans k3).setCell hgb2 _)
  generalize (w3.setCell ⟨gb, K * 4 + 3, none⟩ (.string fl)) = w4 at *
  have HRD := Lib.hid hrd
  clear hrd hpc ho ho3 pf p0' p1' p2' p3' d0 d1 d2 d3 hd1
  go_wp2
  have hM0 := mg_new w4 43 false 0 0 ⟨#[]⟩
  have k5 := (Keep.refl w4).alloc (.cells #[.bool false, .int .i64 0, .int .i64 0, .string ⟨#[]⟩] 43)
  have hgM : gb < w4.heap.size := cellBlock (HRD.out 0 (by omega)).1
  obtain ⟨M, hMe⟩ : ∃ M, w4.heap.size = M := ⟨_, rfl⟩
  rw [hMe] at hM0 hgM ⊢
  generalize (w4.alloc (.cells #[.bool false, .int .i64 0, .int .i64 0, .string ⟨#[]⟩] 43)) = w5 at *
  go_loopw [11] (fun s11 wr => ∃ (i : Nat) (m : Mg), i ≤ q ∧ s11 = .int .i64 i ∧ Hid (MgT 43 wr M m.on m.num m.next m.data ∧ Keep w4 wr ∧ m.okB = true ∧ (i ≤ K → m = stK s n cuts i))) (fun i _ => q - (intOf i).toNat)
  case atStart => exact ⟨0, zeroM, by omega, rfl, Lib.hid ⟨hM0, k5, zero_ok, fun _ => by unfold stK; rw [if_pos (.inl rfl)]⟩⟩
  case round =>
    obtain ⟨i, m, hi, rfl, HR⟩ := hrel
    by_cases hiq : i < q
    · have hiK : i ≤ K := by omega
      have hm := HR.out.2.2.2 hiK
      have hmok := HR.out.2.2.1
      have hpi := (HRD.out i hiK).keep HR.out.2.1
      obtain ⟨pp, hpp⟩ : ∃ pp, pcF s n cuts fl i = pp := ⟨_, rfl⟩
      rw [hpp] at hpi
      have hds := dam_step hW j p0 i (by omega) m hmok hm
      rw [hK, hwas, hfl, hpp] at hds
      obtain ⟨hJE, hcase, hnx⟩ := hds
      have hnok := joinM_ok m pp
      obtain ⟨nx, hnxe⟩ : ∃ nx, joinM m pp = nx := ⟨_, rfl⟩
      obtain ⟨f9, hf9⟩ : ∃ f, joinS m pp = f := ⟨_, rfl⟩
      rw [hnxe] at hnx hnok
      rw [hf9] at hcase
      obtain ⟨pS, pn, pc, pX⟩ := pp
      obtain ⟨mo, mn, mx, md⟩ := m
      obtain ⟨no, nn, nv, nd⟩ := nx
      have HJN := Lib.hid (And.intro (Lib.hid hnxe) (And.intro (Lib.hid hf9) (Lib.hid hJE)))
      obtain ⟨q0, q1, q2, q3⟩ := hpi
      have hmr := HR.out.1
      dsimp only at q0 q1 q2 q3 hmr
      obtain ⟨m0, m1, m2, m3⟩ := mg_cells hmr
      obtain ⟨q0', q1', q2', q3'⟩ := (show PcIn wr.drew gb (i * 4) ⟨pS, pn, pc, pX⟩ from ⟨q0, q1, q2, q3⟩)
      obtain ⟨m0', m1', m2', m3'⟩ := mg_cells (show MgT 43 wr.drew M mo mn mx md from hmr)
      have hMlt := mg_lt hmr
      have hgbl := cellBlock q0
      dsimp only at q0' q1' q2' q3'
      go_upto_region 11 with fail
      refine region_inv (J := fun bb aa ww => ∃ v12 v13 v14 v46 v47 v48 v49 v50 v51 v52 v53 v54 v55 : Value, aa = ⟨#[Value.agg #[Value.string x, Value.int IntKind.u16 L, Value.int IntKind.u8 g, Value.slice v0 len cap], Value.int IntKind.u16 ↑a0, Value.int IntKind.u32 ↑p0, Value.pointer (some { block := w.heap.size, off := 0 }), undef, undef, u6, Value.slice (some { block := gb, off := 0 }) q cap1, Value.int IntKind.i64 ↑K, Value.string was, Value.pointer (some { block := M, off := 0 }), Value.int IntKind.i64 ↑i, v12, v13, v14, Value.bool true, Value.bool false, Value.agg #[Value.string x, Value.int IntKind.u16 L, Value.int IntKind.u8 g, Value.slice v0 len cap], Value.slice (some { block := gb, off := 0 }) q cap1, Value.slice (some { block := gb, off := 0 }) q cap1, Value.int IntKind.i64 ↑q, Value.int IntKind.i64 ↑K, Value.slice (some { block := gb, off := 0 }) q cap1, Value.int IntKind.i64 ↑K, Value.pointer (some { block := gb, off := K * 4 }), Value.pointer (some { block := gb, off := K * 4 + 3 }), Value.string was, Value.slice (some { block := gb, off := 0 }) q cap1, Value.int IntKind.i64 ↑K, Value.string was, Value.int IntKind.u16 ↑a0, Value.int IntKind.i64 ↑a0, Value.string was, Value.int IntKind.i64 ↑was.size, Value.int IntKind.i64 (8 * ↑was.size), Value.int IntKind.i64 ↑j, Value.int IntKind.u32 ↑p0, Value.string fl, Value.pointer (some { block := gb, off := K * 4 }), Value.pointer (some { block := gb, off := K * 4 + 3 }), Value.int IntKind.i64 ↑i, Value.slice (some { block := gb, off := 0 }) q cap1, Value.int IntKind.i64 ↑q, Value.bool true, u44, u45, v46, v47, v48, v49, v50, v51, v52, v53, v54, v55, u56, u57, u58, u59, u60, u61, u62, u63, u64, u65, u66, u67, u68, u69, u70, u71, u72, u73, u74, u75, u76], []⟩ ∧ Keep wr ww ∧ (bb 0 → v47 = .agg #[.bool mo, .int .i64 mn, .int .i64 mx, .string md]) ∧ (bb 1 → v48 = .slice (some ⟨gb, 0, none⟩) q cap1) ∧ (bb 2 → v49 = .int .i64 (i : Int)) ∧ (bb 3 → v50 = .pointer (some ⟨gb, i * 4, none⟩)) ∧ (bb 4 → v51 = .agg #[.bool pS, .int .i64 pn, .int .i64 pc, .string pX]) ∧ (bb 5 → v52 = .tuple #[.agg #[.bool no, .int .i64 nn, .int .i64 nv, .string nd], .string f9, .int .i64 0]) ∧ (bb 6 → v46 = .tuple #[.agg #[.bool no, .int .i64 nn, .int .i64 nv, .string nd], .string f9, .int .i64 0]) ∧ (bb 7 → v53 = .agg #[.bool no, .int .i64 nn, .int .i64 nv, .string nd]) ∧ (bb 8 → v54 = .string f9) ∧ (bb 9 → v55 = .int .i64 0) ∧ (bb 10 → VarM wr ww v12 (bb 11) (⟨no, nn, nv, nd⟩)) ∧ (bb 11 → bb 10) ∧ (bb 12 → v13 = .string f9) ∧ (bb 13 → v14 = .int .i64 0)) (by kernel_rfl) (by kernel_rfl) ?donew ?startw ?stepsw
      case donew =>
        rintro bb aa ww hb ⟨v12, v13, v14, v46, v47, v48, v49, v50, v51, v52, v53, v54, v55, rfl, G, f0, f1, f2, f3, f4, f5, f6, f7, f8, f9, f10, f11, f12, f13⟩
        replace hb : ∀ k, k < 14 → bb k := fun k hk => hb k hk
        have g0 := f0 (hb 0 (by decide))
        have g1 := f1 (hb 1 (by decide))
        have g2 := f2 (hb 2 (by decide))
        have g3 := f3 (hb 3 (by decide))
        have g4 := f4 (hb 4 (by decide))
        have g5 := f5 (hb 5 (by decide))
        have g6 := f6 (hb 6 (by decide))
        have g7 := f7 (hb 7 (by decide))
        have g8 := f8 (hb 8 (by decide))
        have g9 := f9 (hb 9 (by decide))
        have g10 := f10 (hb 10 (by decide))
        have g12 := f12 (hb 12 (by decide))
        have g13 := f13 (hb 13 (by decide))
        clear f0 f1 f2 f3 f4 f5 f6 f7 f8 f9 f10 f11 f12 f13
        obtain rfl := g0
        obtain rfl := g1
        obtain rfl := g2
        obtain rfl := g3
        obtain rfl := g4
        obtain rfl := g5
        obtain rfl := g6
        obtain rfl := g7
        obtain rfl := g8
        obtain rfl := g9
        obtain rfl := g12
        obtain rfl := g13
        obtain ⟨X10, rfl, hX10, -, hs10⟩ := g10
        have hN10 := hs10 (hb 11 (by decide))
        have hM9 := mg_k hmr G
        dsimp only at hN10
        obtain ⟨n0, n1, n2, n3⟩ := mg_cells hN10
        have hX10l := mg_lt hN10
        clear hs10 q0 q1 q2 q3 q0' q1' q2' q3' m0 m1 m2 m3 m0' m1' m2' m3' hb HJN
        rcases hcase with rfl | ⟨hik, hfw⟩
        · go_wp2_with (refine wpList_store_row rfl 43 _ _ rfl M rfl 43 _ #[.bool no, .int .i64 nn, .int .i64 nv, .string nd] rfl hM9 rfl (mg_one _ _ _ _) info_merge ?_)
          go_roundw
          case rel =>
            have hfin : Hid (MgT 43 (ww.setRow M #[.bool no, .int .i64 nn, .int .i64 nv, .string nd]) M no nn nv nd ∧ Keep w4 (ww.setRow M #[.bool no, .int .i64 nn, .int .i64 nv, .string nd]) ∧ Mg.okB ⟨no, nn, nv, nd⟩ = true ∧ (i + 1 ≤ K → (⟨no, nn, nv, nd⟩ : Mg) = stK s n cuts (i + 1))) := Lib.hid ⟨mg_row hM9 _ _ _ _, (HR.out.2.1.trans G).setRow (by omega) _, hnok, hnx⟩
            first | exact ⟨i + 1, ⟨no, nn, nv, nd⟩, by omega, by go_num, hfin⟩ | exact ⟨i + 1, by omega, by omega, ⟨no, nn, nv, nd⟩, hfin⟩
          case measure => simp [intOf]; omega
        · have hpK9 : PcIn ww gb (K * 4) ⟨(pcAt s n cuts K).st, n, (pcAt s n cuts K).cnt, was⟩ := by
            have h9 := ((HRD.out K (Nat.le_refl K)).keep HR.out.2.1).keep G
            unfold pcF at h9
            rw [if_pos hK.symm, hfw] at h9
            exact h9
          obtain ⟨w0', w1', w2', w3'⟩ := hpK9
          dsimp only at w3'
          have hikl : ¬ (i : Int) < (K : Int) := by omega
          have HIK := Lib.hid hik
          clear hik
          by_cases he9 : f9.toList = []
          · go_wp2_with (refine wpList_store_row rfl 43 _ _ rfl M rfl 43 _ #[.bool no, .int .i64 nn, .int .i64 nv, .string nd] rfl hM9 rfl (mg_one _ _ _ _) info_merge ?_)
            go_roundw
            case rel =>
              have hfin : Hid (MgT 43 (ww.setRow M #[.bool no, .int .i64 nn, .int .i64 nv, .string nd]) M no nn nv nd ∧ Keep w4 (ww.setRow M #[.bool no, .int .i64 nn, .int .i64 nv, .string nd]) ∧ Mg.okB ⟨no, nn, nv, nd⟩ = true ∧ (i + 1 ≤ K → (⟨no, nn, nv, nd⟩ : Mg) = stK s n cuts (i + 1))) := Lib.hid ⟨mg_row hM9 _ _ _ _, (HR.out.2.1.trans G).setRow (by omega) _, hnok, hnx⟩
              first | exact ⟨i + 1, ⟨no, nn, nv, nd⟩, by omega, by go_num, hfin⟩ | exact ⟨i + 1, by omega, by omega, ⟨no, nn, nv, nd⟩, hfin⟩
            case measure => simp [intOf]; omega
          · go_wp2_with (refine wpList_store_row rfl 43 _ _ rfl M rfl 43 _ #[.bool no, .int .i64 nn, .int .i64 nv, .string nd] rfl hM9 rfl (mg_one _ _ _ _) info_merge ?_)
            go_roundw
            case rel =>
              have hfin : Hid (MgT 43 (ww.setRow M #[.bool no, .int .i64 nn, .int .i64 nv, .string nd]) M no nn nv nd ∧ Keep w4 (ww.setRow M #[.bool no, .int .i64 nn, .int .i64 nv, .string nd]) ∧ Mg.okB ⟨no, nn, nv, nd⟩ = true ∧ (i + 1 ≤ K → (⟨no, nn, nv, nd⟩ : Mg) = stK s n cuts (i + 1))) := Lib.hid ⟨mg_row hM9 _ _ _ _, (HR.out.2.1.trans G).setRow (by omega) _, hnok, hnx⟩
              first | exact ⟨i + 1, ⟨no, nn, nv, nd⟩, by omega, by go_num, hfin⟩ | exact ⟨i + 1, by omega, by omega, ⟨no, nn, nv, nd⟩, hfin⟩
            case measure => simp [intOf]; omega
      case startw => exact ⟨_, _, _, _, _, _, _, _, _, _, _, _, _, rfl, Keep.drew (Keep.refl _), fun h => h.elim, fun h => h.elim, fun h => h.elim, fun h => h.elim, fun h => h.elim, fun h => h.elim, fun h => h.elim, fun h => h.elim, fun h => h.elim, fun h => h.elim, fun h => h.elim, fun h => h.elim, fun h => h.elim, fun h => h.elim⟩
      case stepsw =>
        refine StepsFrom.cons (k := 0) ?_ (StepsFrom.cons (k := 1) ?_ (StepsFrom.cons (k := 2) ?_ (StepsFrom.cons (k := 3) ?_ (StepsFrom.cons (k := 4) ?_ (StepsFrom.cons (k := 5) ?_ (StepsFrom.cons (k := 6) ?_ (StepsFrom.cons (k := 7) ?_ (StepsFrom.cons (k := 8) ?_ (StepsFrom.cons (k := 9) ?_ (StepsFrom.cons (k := 10) ?_ (StepsFrom.cons (k := 11) ?_ (StepsFrom.cons (k := 12) ?_ (StepsFrom.cons (k := 13) ?_ (StepsFrom.nil))))))))))))))
        · -- 0: val
          rintro bb aa ww hn hd ⟨v12, v13, v14, v46, v47, v48, v49, v50, v51, v52, v53, v54, v55, rfl, G, HJ⟩ K hK
          replace HJ := Lib.hid HJ
          have k0 := G.some m0
          have k1 := G.some m1
          have k2 := G.some m2
          have k3 := G.some m3
          have HK := Lib.hid hK
          clear hK
          go_simp
          obtain ⟨f0, f1, f2, f3, f4, f5, f6, f7, f8, f9, f10, f11, f12, f13⟩ := HJ.out
          clear HJ
          exact HK.out _ _ ⟨_, _, _, _, _, _, _, _, _, _, _, _, _, rfl, G, fun _ => rfl, up (by decide) f1, up (by decide) f2, up (by decide) f3, up (by decide) f4, up (by decide) f5, up (by decide) f6, up (by decide) f7, up (by decide) f8, up (by decide) f9, fun h => (f10 (down (by decide) h)).step (Keep.refl _) (down (by decide)), fun h => Or.inr (f11 (down (by decide) h)), up (by decide) f12, up (by decide) f13⟩
        · -- 1: val
          rintro bb aa ww hn hd ⟨v12, v13, v14, v46, v47, v48, v49, v50, v51, v52, v53, v54, v55, rfl, G, HJ⟩ K hK
          replace HJ := Lib.hid HJ
          have HK := Lib.hid hK
          clear hK
          go_simp
          obtain ⟨f0, f1, f2, f3, f4, f5, f6, f7, f8, f9, f10, f11, f12, f13⟩ := HJ.out
          clear HJ
          exact HK.out _ _ ⟨_, _, _, _, _, _, _, _, _, _, _, _, _, rfl, G, up (by decide) f0, fun _ => rfl, up (by decide) f2, up (by decide) f3, up (by decide) f4, up (by decide) f5, up (by decide) f6, up (by decide) f7, up (by decide) f8, up (by decide) f9, fun h => (f10 (down (by decide) h)).step (Keep.refl _) (down (by decide)), fun h => Or.inr (f11 (down (by decide) h)), up (by decide) f12, up (by decide) f13⟩
        · -- 2: val
          rintro bb aa ww hn hd ⟨v12, v13, v14, v46, v47, v48, v49, v50, v51, v52, v53, v54, v55, rfl, G, HJ⟩ K hK
          replace HJ := Lib.hid HJ
          have HK := Lib.hid hK
          clear hK
          go_simp
          obtain ⟨f0, f1, f2, f3, f4, f5, f6, f7, f8, f9, f10, f11, f12, f13⟩ := HJ.out
          clear HJ
          exact HK.out _ _ ⟨_, _, _, _, _, _, _, _, _, _, _, _, _, rfl, G, up (by decide) f0, up (by decide) f1, fun _ => rfl, up (by decide) f3, up (by decide) f4, up (by decide) f5, up (by decide) f6, up (by decide) f7, up (by decide) f8, up (by decide) f9, fun h => (f10 (down (by decide) h)).step (Keep.refl _) (down (by decide)), fun h => Or.inr (f11 (down (by decide) h)), up (by decide) f12, up (by decide) f13⟩
        · -- 3: val
          rintro bb aa ww hn hd ⟨v12, v13, v14, v46, v47, v48, v49, v50, v51, v52, v53, v54, v55, rfl, G, HJ⟩ K hK
          replace HJ := Lib.hid HJ
          have f1 := HJ.out.2.1
          have f2 := HJ.out.2.2.1
          have b1 : bb 1 := hd ⟨1, .data⟩ (by simp) (by rfl)
          obtain rfl := f1 b1
          have b2 : bb 2 := hd ⟨2, .data⟩ (by simp) (by rfl)
          obtain rfl := f2 b2
          have HK := Lib.hid hK
          clear hK
          go_simp
          obtain ⟨f0, f1, f2, f3, f4, f5, f6, f7, f8, f9, f10, f11, f12, f13⟩ := HJ.out
          clear HJ
          exact HK.out _ _ ⟨_, _, _, _, _, _, _, _, _, _, _, _, _, rfl, G, up (by decide) f0, fun _ => rfl, fun _ => rfl, fun _ => rfl, up (by decide) f4, up (by decide) f5, up (by decide) f6, up (by decide) f7, up (by decide) f8, up (by decide) f9, fun h => (f10 (down (by decide) h)).step (Keep.refl _) (down (by decide)), fun h => Or.inr (f11 (down (by decide) h)), up (by decide) f12, up (by decide) f13⟩
        · -- 4: val
          rintro bb aa ww hn hd ⟨v12, v13, v14, v46, v47, v48, v49, v50, v51, v52, v53, v54, v55, rfl, G, HJ⟩ K hK
          replace HJ := Lib.hid HJ
          have f3 := HJ.out.2.2.2.1
          have b3 : bb 3 := hd ⟨3, .data⟩ (by simp) (by rfl)
          obtain rfl := f3 b3
          have k0 := G.some q0
          have k1 := G.some q1
          have k2 := G.some q2
          have k3 := G.some q3
          have HK := Lib.hid hK
          clear hK
          go_simp
          obtain ⟨f0, f1, f2, f3, f4, f5, f6, f7, f8, f9, f10, f11, f12, f13⟩ := HJ.out
          clear HJ
          exact HK.out _ _ ⟨_, _, _, _, _, _, _, _, _, _, _, _, _, rfl, G, up (by decide) f0, up (by decide) f1, up (by decide) f2, fun _ => rfl, fun _ => rfl, up (by decide) f5, up (by decide) f6, up (by decide) f7, up (by decide) f8, up (by decide) f9, fun h => (f10 (down (by decide) h)).step (Keep.refl _) (down (by decide)), fun h => Or.inr (f11 (down (by decide) h)), up (by decide) f12, up (by decide) f13⟩
        · -- 5: val
          rintro bb aa ww hn hd ⟨v12, v13, v14, v46, v47, v48, v49, v50, v51, v52, v53, v54, v55, rfl, G, HJ⟩ K hK
          replace HJ := Lib.hid HJ
          have f0 := HJ.out.1
          have f4 := HJ.out.2.2.2.2.1
          have b0 : bb 0 := hd ⟨0, .data⟩ (by simp) (by rfl)
          obtain rfl := f0 b0
          have b4 : bb 4 := hd ⟨4, .data⟩ (by simp) (by rfl)
          obtain rfl := f4 b4
          have HK := Lib.hid hK
          clear hK
          go_wp2_with ((go_at_call 20; ((with_reducible refine (join_is mo mn mx md pS pn pc pX ⟨no, nn, nv, nd⟩ f9 0 _ HJN.out.1 HJN.out.2.1 HJN.out.2.2).mono ?_); rintro e' w6 ⟨rfl, hk⟩; dsimp only)))
          obtain ⟨f0, f1, f2, f3, f4, f5, f6, f7, f8, f9, f10, f11, f12, f13⟩ := HJ.out
          clear HJ
          exact HK.out _ _ ⟨_, _, _, _, _, _, _, _, _, _, _, _, _, rfl, (G.trans hk), fun _ => rfl, up (by decide) f1, up (by decide) f2, up (by decide) f3, fun _ => rfl, fun _ => rfl, up (by decide) f6, up (by decide) f7, up (by decide) f8, up (by decide) f9, fun h => (f10 (down (by decide) h)).step hk (down (by decide)), fun h => Or.inr (f11 (down (by decide) h)), up (by decide) f12, up (by decide) f13⟩
        · -- 6: val
          rintro bb aa ww hn hd ⟨v12, v13, v14, v46, v47, v48, v49, v50, v51, v52, v53, v54, v55, rfl, G, HJ⟩ K hK
          replace HJ := Lib.hid HJ
          have f5 := HJ.out.2.2.2.2.2.1
          have b5 : bb 5 := hd ⟨5, .data⟩ (by simp) (by rfl)
          obtain rfl := f5 b5
          have HK := Lib.hid hK
          clear hK
          go_simp
          obtain ⟨f0, f1, f2, f3, f4, f5, f6, f7, f8, f9, f10, f11, f12, f13⟩ := HJ.out
          clear HJ
          exact HK.out _ _ ⟨_, _, _, _, _, _, _, _, _, _, _, _, _, rfl, G, up (by decide) f0, up (by decide) f1, up (by decide) f2, up (by decide) f3, up (by decide) f4, fun _ => rfl, fun _ => rfl, up (by decide) f7, up (by decide) f8, up (by decide) f9, fun h => (f10 (down (by decide) h)).step (Keep.refl _) (down (by decide)), fun h => Or.inr (f11 (down (by decide) h)), up (by decide) f12, up (by decide) f13⟩
        · -- 7: val
          rintro bb aa ww hn hd ⟨v12, v13, v14, v46, v47, v48, v49, v50, v51, v52, v53, v54, v55, rfl, G, HJ⟩ K hK
          replace HJ := Lib.hid HJ
          have f6 := HJ.out.2.2.2.2.2.2.1
          have b6 : bb 6 := hd ⟨6, .data⟩ (by simp) (by rfl)
          obtain rfl := f6 b6
          have HK := Lib.hid hK
          clear hK
          go_simp
          obtain ⟨f0, f1, f2, f3, f4, f5, f6, f7, f8, f9, f10, f11, f12, f13⟩ := HJ.out
          clear HJ
          exact HK.out _ _ ⟨_, _, _, _, _, _, _, _, _, _, _, _, _, rfl, G, up (by decide) f0, up (by decide) f1, up (by decide) f2, up (by decide) f3, up (by decide) f4, up (by decide) f5, fun _ => rfl, fun _ => rfl, up (by decide) f8, up (by decide) f9, fun h => (f10 (down (by decide) h)).step (Keep.refl _) (down (by decide)), fun h => Or.inr (f11 (down (by decide) h)), up (by decide) f12, up (by decide) f13⟩
        · -- 8: val
          rintro bb aa ww hn hd ⟨v12, v13, v14, v46, v47, v48, v49, v50, v51, v52, v53, v54, v55, rfl, G, HJ⟩ K hK
          replace HJ := Lib.hid HJ
          have f6 := HJ.out.2.2.2.2.2.2.1
          have b6 : bb 6 := hd ⟨6, .data⟩ (by simp) (by rfl)
          obtain rfl := f6 b6
          have HK := Lib.hid hK
          clear hK
          go_simp
          obtain ⟨f0, f1, f2, f3, f4, f5, f6, f7, f8, f9, f10, f11, f12, f13⟩ := HJ.out
          clear HJ
          exact HK.out _ _ ⟨_, _, _, _, _, _, _, _, _, _, _, _, _, rfl, G, up (by decide) f0, up (by decide) f1, up (by decide) f2, up (by decide) f3, up (by decide) f4, up (by decide) f5, fun _ => rfl, up (by decide) f7, fun _ => rfl, up (by decide) f9, fun h => (f10 (down (by decide) h)).step (Keep.refl _) (down (by decide)), fun h => Or.inr (f11 (down (by decide) h)), up (by decide) f12, up (by decide) f13⟩
        · -- 9: val
          rintro bb aa ww hn hd ⟨v12, v13, v14, v46, v47, v48, v49, v50, v51, v52, v53, v54, v55, rfl, G, HJ⟩ K hK
          replace HJ := Lib.hid HJ
          have f6 := HJ.out.2.2.2.2.2.2.1
          have b6 : bb 6 := hd ⟨6, .data⟩ (by simp) (by rfl)
          obtain rfl := f6 b6
          have HK := Lib.hid hK
          clear hK
          go_simp
          obtain ⟨f0, f1, f2, f3, f4, f5, f6, f7, f8, f9, f10, f11, f12, f13⟩ := HJ.out
          clear HJ
          exact HK.out _ _ ⟨_, _, _, _, _, _, _, _, _, _, _, _, _, rfl, G, up (by decide) f0, up (by decide) f1, up (by decide) f2, up (by decide) f3, up (by decide) f4, up (by decide) f5, fun _ => rfl, up (by decide) f7, up (by decide) f8, fun _ => rfl, fun h => (f10 (down (by decide) h)).step (Keep.refl _) (down (by decide)), fun h => Or.inr (f11 (down (by decide) h)), up (by decide) f12, up (by decide) f13⟩
        · -- 10: alloc
          rintro bb aa ww hn hd ⟨v12, v13, v14, v46, v47, v48, v49, v50, v51, v52, v53, v54, v55, rfl, G, HJ⟩ K hK
          replace HJ := Lib.hid HJ
          have HK := Lib.hid hK
          clear hK
          go_simp
          obtain ⟨f0, f1, f2, f3, f4, f5, f6, f7, f8, f9, f10, f11, f12, f13⟩ := HJ.out
          clear HJ
          exact HK.out _ _ ⟨_, _, _, _, _, _, _, _, _, _, _, _, _, rfl, (G.trans (Keep.alloc (Keep.refl _) _)), up (by decide) f0, up (by decide) f1, up (by decide) f2, up (by decide) f3, up (by decide) f4, up (by decide) f5, up (by decide) f6, up (by decide) f7, up (by decide) f8, up (by decide) f9, fun _ => VarM.new G (fun h => hn (f11 (h.resolve_left (by decide)))), fun _ => Or.inl rfl, up (by decide) f12, up (by decide) f13⟩
        · -- 11: store
          rintro bb aa ww hn hd ⟨v12, v13, v14, v46, v47, v48, v49, v50, v51, v52, v53, v54, v55, rfl, G, HJ⟩ K hK
          replace HJ := Lib.hid HJ
          have f7 := HJ.out.2.2.2.2.2.2.2.1
          have f10 := HJ.out.2.2.2.2.2.2.2.2.2.2.1
          have b7 : bb 7 := hd ⟨7, .data⟩ (by simp) (by rfl)
          obtain rfl := f7 b7
          have b10 : bb 10 := hd ⟨10, .data⟩ (by simp) (by rfl)
          obtain ⟨X, rfl, hX, ⟨o', n', x', d', hmm⟩, -⟩ := f10 b10
          obtain ⟨hc0, hc1, hc2, hc3⟩ := mg_cells hmm
          have hf0 := mg_free hmm 0
          have hf1 := mg_free hmm 1
          have hf2 := mg_free hmm 2
          have hf3 := mg_free hmm 3
          have HK := Lib.hid hK
          clear hK
          rw [if_pos (show Region.wanted _ _ = true from rfl)]
          refine wp_store_row 43 _ _ rfl X rfl 43 _ #[.bool no, .int .i64 nn, .int .i64 nv, .string nd] rfl hmm rfl (mg_one _ _ _ _) info_merge ?_
          obtain ⟨f0, f1, f2, f3, f4, f5, f6, f7, f8, f9, f10, f11, f12, f13⟩ := HJ.out
          clear HJ
          exact HK.out _ _ ⟨_, _, _, _, _, _, _, _, _, _, _, _, _, rfl, (G.setRow hX _), up (by decide) f0, up (by decide) f1, up (by decide) f2, up (by decide) f3, up (by decide) f4, up (by decide) f5, up (by decide) f6, fun _ => rfl, up (by decide) f8, up (by decide) f9, fun _ => VarM.here (nx := ⟨no, nn, nv, nd⟩) hX hmm, fun _ => Or.inr b10, up (by decide) f12, up (by decide) f13⟩
        · -- 12: val
          rintro bb aa ww hn hd ⟨v12, v13, v14, v46, v47, v48, v49, v50, v51, v52, v53, v54, v55, rfl, G, HJ⟩ K hK
          replace HJ := Lib.hid HJ
          have f8 := HJ.out.2.2.2.2.2.2.2.2.1
          have b8 : bb 8 := hd ⟨8, .data⟩ (by simp) (by rfl)
          obtain rfl := f8 b8
          have HK := Lib.hid hK
          clear hK
          go_simp
          obtain ⟨f0, f1, f2, f3, f4, f5, f6, f7, f8, f9, f10, f11, f12, f13⟩ := HJ.out
          clear HJ
          exact HK.out _ _ ⟨_, _, _, _, _, _, _, _, _, _, _, _, _, rfl, G, up (by decide) f0, up (by decide) f1, up (by decide) f2, up (by decide) f3, up (by decide) f4, up (by decide) f5, up (by decide) f6, up (by decide) f7, fun _ => rfl, up (by decide) f9, fun h => (f10 (down (by decide) h)).step (Keep.refl _) (down (by decide)), fun h => Or.inr (f11 (down (by decide) h)), fun _ => rfl, up (by decide) f13⟩
        · -- 13: val
          rintro bb aa ww hn hd ⟨v12, v13, v14, v46, v47, v48, v49, v50, v51, v52, v53, v54, v55, rfl, G, HJ⟩ K hK
          replace HJ := Lib.hid HJ
          have f9 := HJ.out.2.2.2.2.2.2.2.2.2.1
          have b9 : bb 9 := hd ⟨9, .data⟩ (by simp) (by rfl)
          obtain rfl := f9 b9
          have HK := Lib.hid hK
          clear hK
          go_simp
          obtain ⟨f0, f1, f2, f3, f4, f5, f6, f7, f8, f9, f10, f11, f12, f13⟩ := HJ.out
          clear HJ
          exact HK.out _ _ ⟨_, _, _, _, _, _, _, _, _, _, _, _, _, rfl, G, up (by decide) f0, up (by decide) f1, up (by decide) f2, up (by decide) f3, up (by decide) f4, up (by decide) f5, up (by decide) f6, up (by decide) f7, up (by decide) f8, fun _ => rfl, fun h => (f10 (down (by decide) h)).step (Keep.refl _) (down (by decide)), fun h => Or.inr (f11 (down (by decide) h)), up (by decide) f12, fun _ => rfl⟩
    · obtain rfl : i = q := by omega
      go_wp2
      go_ret
      exact ⟨rfl, K3.out.trans HR.out.2.1⟩
end Go.Proofs.Ytgejpbgpgklimaa
