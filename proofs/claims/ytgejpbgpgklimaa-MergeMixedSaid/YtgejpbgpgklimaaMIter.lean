/- The iterator over the pieces of a frame. -/
import Derived.Test.YtgejpbgpgklimaaMYield
import Derived.Test.YtgejpbgpgklimaaMAllow
import Derived.Test.YtgejpbgpgklimaaCSlice
namespace Go.Proofs.Ytgejpbgpgklimaa
open Go Go.RowKit Go.Shelf
set_option maxRecDepth 100000 in
attribute [local go_sem] Oper.semAt_some

theorem pieces_is (s : ByteArray) (n : Int) (a0 : Option Addr) (len cap : Nat) (w : World) :
    Calls Try.prog 40 #[.string s, .int .i64 n, .slice a0 len cap] w fun e w' =>
      e = .returned (.func (.func 62) #[] #[.pointer (some ⟨w.heap.size + 1, 0, none⟩), .pointer (some ⟨w.heap.size + 1 + 1, 0, none⟩), .pointer (some ⟨w.heap.size, 0, none⟩)]) ∧ w' = ((w.alloc (.cells #[.string s] 9)).alloc (.cells #[.int .i64 n] 3)).alloc (.cells #[.slice a0 len cap] 26) := by
  have hmf : ∀ (fn : Fn) (first cap : Array Value) (w : World), (Instr.makeFunc fn first cap).run Try.prog w = .ok (.func fn first cap) w := fun _ _ _ _ => rfl
  go_enter Try.func40, Try.ntmps40
  go_wp2
  go_ret
  exact ⟨rfl, rfl⟩
theorem mg_four {t : TypeId} {w : World} {R : Nat} {o : Bool} {n x : Int} {d : ByteArray} (h : MgT t w R o n x d) (o' : Bool) (n' x' : Int) (d' : ByteArray) :
    MgT t ((((w.setCell ⟨R, 0, none⟩ (.bool o')).setCell ⟨R, 1, none⟩ (.int .i64 n')).setCell ⟨R, 2, none⟩ (.int .i64 x')).setCell ⟨R, 3, none⟩ (.string d')) R o' n' x' d' :=
  heap_setCell_same _ _ _ _ _ _ (heap_setCell_same _ _ _ _ _ _ (heap_setCell_same _ _ _ _ _ _ (heap_setCell_same _ _ _ _ _ _ h)))
theorem keepX_four (w : World) (R : Nat) (a b c d : Value) : KeepX R w ((((w.setCell ⟨R, 0, none⟩ a).setCell ⟨R, 1, none⟩ b).setCell ⟨R, 2, none⟩ c).setCell ⟨R, 3, none⟩ d) :=
  (((keepX_set w R 0 a).trans (keepX_set _ R 1 b)).trans (keepX_set _ R 2 c)).trans (keepX_set _ R 3 d)

set_option maxRecDepth 100000 in
set_option maxHeartbeats 8000000 in
theorem pieces1_in (nF : Nat) (hnF : 1 ≤ nF) (l Bn Bc Bs : Nat) (s : ByteArray) (n : Int) (v : Value) (cuts : List Int) (w0 W : World) (hs : s.size ≤ 1522) (hok : okCuts s.size cuts = true)
    (hBn : w0.cell? ⟨Bn, 0, none⟩ = some (.int .i64 n)) (hBc : w0.cell? ⟨Bc, 0, none⟩ = some v) (hBs : w0.cell? ⟨Bs, 0, none⟩ = some (.string s)) (hcuts : ListAt w0 v cuts) (hW : Keep w0 W)
    (J : Nat → List Pc → World → Prop) (hJk : ∀ P ss W', J P ss W' → Keep w0 W') (hJx : ∀ P ss W' W'', W.heap.size ≤ P → J P ss W' → KeepX P W' W'' → J P ss W'')
    (hY : ∀ P ss x W', W.heap.size ≤ P → P < W'.heap.size → J P ss W' → ss.length < 1000 → YieldAt Fence.wide (nF - 1) Try.prog l #[.agg #[.bool x.st, .int .i64 x.num, .int .i64 x.cnt, .string x.data]] W' fun e W'' => e = .returned (.bool true) ∧ J P (ss ++ [x]) W'' ∧ W''.heap[P]? = W'.heap[P]?)
    (h0 : ∀ P, W.heap.size ≤ P → J P [] W) :
    CallsIn Fence.wide nF Try.prog 62 #[.func (.yield l) #[] #[], .pointer (some ⟨Bn, 0, none⟩), .pointer (some ⟨Bc, 0, none⟩), .pointer (some ⟨Bs, 0, none⟩)] W fun e W' => (∃ u, e = .returned u) ∧ ∃ P, J P (pcsL s n cuts) W' := by
  have HY := Lib.hid hY
  have HJk := Lib.hid hJk
  have HJx := Lib.hid hJx
  have HO := Lib.hid hok
  have HC := Lib.hid hcuts
  have H0 := Lib.hid h0
  clear hY hJk hJx hok hcuts h0
  have c1 := hW.some hBn
  have c2 := hW.some hBc
  have c3 := hW.some hBs
  obtain ⟨len, hlen⟩ : ∃ len, cuts.length = len := ⟨_, rfl⟩
  have hlen24 := okCuts_len HO.out (by omega)
  rw [hlen] at hlen24
  have hv : (v = .slice none 0 0 ∧ len = 0) ∨ ∃ b off cap, v = .slice (some ⟨b, off, none⟩) len cap ∧ ∀ j, j < len → w0.cell? ⟨b, off + j, none⟩ = some (.int .i64 (cuts.getD j 0)) := by
    rcases HC.out with ⟨h1, h2⟩ | ⟨b, off, n', cap, h1, h2, h3, h4⟩
    · exact .inl ⟨h1, by rw [← hlen, h2]; rfl⟩
    · obtain rfl : n' = len := by rw [← hlen, h2]
      exact .inr ⟨b, off, cap, h1, h4⟩
  refine callsIn_of_wp Try.func62 rfl trivial ?_ rfl
  simp only [Try.ntmps62, List.size_toArray, List.length_cons, List.length_nil, Nat.reduceAdd, Nat.reduceSub, Array.replicate_succ, Array.replicate_zero, List.push_toArray, List.append_toArray, List.nil_append, List.cons_append]
  have b1 := cellBlock c1
  have b2 := cellBlock c2
  have b3 := cellBlock c3
  rcases hv with ⟨rfl, hz⟩ | ⟨b, off, cap, rfl, hcl⟩
  · gi_wp2
    have hp0 := mg_new W 45 true n 0 ⟨#[]⟩
    obtain ⟨Pb, hPe⟩ : ∃ Pb, W.heap.size = Pb := ⟨_, rfl⟩
    have hJ0 := HJx.out Pb [] W _ (by omega) (H0.out Pb (by omega)) (((Keep.refl W).alloc (.cells #[.bool true, .int .i64 n, .int .i64 0, .string ⟨#[]⟩] 45)).toX Pb)
    have hlt0 : Pb < (W.alloc (.cells #[.bool true, .int .i64 n, .int .i64 0, .string ⟨#[]⟩] 45)).heap.size := by simp; omega
    rw [hPe] at hp0 ⊢
    generalize (W.alloc (.cells #[.bool true, .int .i64 n, .int .i64 0, .string ⟨#[]⟩] 45)) = W1 at *
    clear c1 c2 c3 b1 b2 b3
    gi_loopw [6, 13] (fun s6 s13 wr => ∃ (k : Nat) (d : ByteArray), k ≤ len ∧ s6 = .int .i64 (frI cuts k) ∧ s13 = .int .i64 k ∧ Hid (MgT 45 wr Pb (decide (k = 0)) n (cntAt k) d ∧ J Pb (pcsK s n cuts k) wr)) (fun _ i _ => len - (intOf i).toNat)
    case atStart => exact ⟨0, ⟨#[]⟩, Nat.zero_le _, rfl, rfl, Lib.hid ⟨hp0, hJ0⟩⟩
    case round =>
      obtain ⟨k, d, hk, rfl, rfl, HR⟩ := hrel
      have hKr := HJk.out _ _ _ HR.out.2
      have c1 := hKr.some hBn
      have c3 := hKr.some hBs
      obtain ⟨p0, p1, p2, p3⟩ := mg_cells HR.out.1
      have pf := fun j => mg_free HR.out.1 j
      have hPlt := mg_lt HR.out.1
      have HCL := HC.out
      clear HCL
      obtain rfl : k = len := by omega
      have hok2 := okTo_less HO.out (show k ≤ cuts.length by omega)
      have hf0 := fr_eq hok2
      have hfl := okTo_fr hok2
      have hpc : pcAt s n cuts k = ⟨decide (k = 0), n, cntAt k, s.extract (fr cuts k) s.size⟩ := by unfold pcAt; rw [if_neg (by omega)]
      obtain ⟨x, hx⟩ : ∃ x, fr cuts k = x := ⟨_, rfl⟩
      rw [hx] at hf0 hpc
      rw [← hf0] at hfl
      rw [← hf0]
      obtain ⟨D, hD⟩ : ∃ D, s.extract x s.size = D := ⟨_, rfl⟩
      rw [hD] at hpc
      have hs2 : ∀ wx, (Instr.slice 9 (.string s) (some (.int .i64 x)) none none).run Try.prog wx = .ok (.string D) wx := fun wx => by rw [← hD]; exact slice_from s x (by omega) wx
      obtain ⟨bk, hbk⟩ : ∃ bk, decide (k = 0) = bk := ⟨_, rfl⟩
      obtain ⟨ck, hck⟩ : ∃ ck, cntAt k = ck := ⟨_, rfl⟩
      rw [hbk, hck] at hpc
      rw [hbk] at p0
      rw [hck] at p2
      have hp : MgT 45 wr Pb bk n ck d := by have := HR.out.1; rw [hbk, hck] at this; exact this
      have hJr := HR.out.2
      have HPC := Lib.hid hpc
      clear hpc hD hf0 HR hbk hck hx hok2 hfl
      have pf3 := pf 3
      have hJ2 := HJx.out Pb _ wr (wr.setCell ⟨Pb, 3, none⟩ (.string D)) (by omega) hJr (keepX_set _ _ _ _)
      have hp2 := mg_set hp D
      have hlt2 := mg_lt hp2
      obtain ⟨fn, tmps, assign, body, hy, hRR⟩ := HY.out Pb _ ⟨bk, n, ck, D⟩ (wr.setCell ⟨Pb, 3, none⟩ (.string D)) (by omega) hlt2 hJ2 (by rw [pcsK_length]; omega)
      dsimp only at hy
      gi_wp2
      refine hRR.mono ?_
      rintro e W3 ⟨rfl, hJ3, hP3⟩
      gi_wp2
      first | go_end0 | refine bodyPost_ret (results_none rfl _ _ _) rfl ?_
      refine ⟨⟨_, rfl⟩, Pb, ?_⟩
      unfold pcsL
      rw [hlen, pcsK_succ, HPC.out]
      exact hJ3
  · gi_wp2
    have hp0 := mg_new W 45 true n 0 ⟨#[]⟩
    obtain ⟨Pb, hPe⟩ : ∃ Pb, W.heap.size = Pb := ⟨_, rfl⟩
    have hJ0 := HJx.out Pb [] W _ (by omega) (H0.out Pb (by omega)) (((Keep.refl W).alloc (.cells #[.bool true, .int .i64 n, .int .i64 0, .string ⟨#[]⟩] 45)).toX Pb)
    have hlt0 : Pb < (W.alloc (.cells #[.bool true, .int .i64 n, .int .i64 0, .string ⟨#[]⟩] 45)).heap.size := by simp; omega
    rw [hPe] at hp0 ⊢
    generalize (W.alloc (.cells #[.bool true, .int .i64 n, .int .i64 0, .string ⟨#[]⟩] 45)) = W1 at *
    clear c1 c2 c3 b1 b2 b3
    gi_loopw [6, 13] (fun s6 s13 wr => ∃ (k : Nat) (d : ByteArray), k ≤ len ∧ s6 = .int .i64 (frI cuts k) ∧ s13 = .int .i64 k ∧ Hid (MgT 45 wr Pb (decide (k = 0)) n (cntAt k) d ∧ J Pb (pcsK s n cuts k) wr)) (fun _ i _ => len - (intOf i).toNat)
    case atStart => exact ⟨0, ⟨#[]⟩, Nat.zero_le _, rfl, rfl, Lib.hid ⟨hp0, hJ0⟩⟩
    case round =>
      obtain ⟨k, d, hk, rfl, rfl, HR⟩ := hrel
      have hKr := HJk.out _ _ _ HR.out.2
      have c1 := hKr.some hBn
      have c3 := hKr.some hBs
      obtain ⟨p0, p1, p2, p3⟩ := mg_cells HR.out.1
      have pf := fun j => mg_free HR.out.1 j
      have hPlt := mg_lt HR.out.1
      by_cases hlt : k < len
      · have hst := okTo_step (okTo_less HO.out (show k + 1 ≤ cuts.length by omega))
        have hf0 := fr_eq hst.1
        have hf1 := fr_eq (okTo_less HO.out (show k + 1 ≤ cuts.length by omega))
        have c4 := hKr.some (hcl k hlt)
        rw [← frI_succ cuts k] at c4
        have hpc : pcAt s n cuts k = ⟨decide (k = 0), n, cntAt k, (sealG (s.extract 0 (fr cuts (k + 1))) unf).extract (fr cuts k) (fr cuts (k + 1) + 4)⟩ := by unfold pcAt; rw [if_pos (by omega)]
        have h60 := (okTo_fr hst.1).1
        obtain ⟨x, hx⟩ : ∃ x, fr cuts k = x := ⟨_, rfl⟩
        obtain ⟨y, hy⟩ : ∃ y, fr cuts (k + 1) = y := ⟨_, rfl⟩
        rw [hx] at hf0 hpc
        rw [hy] at hf1 hpc
        rw [← hf0, ← hf1] at hst
        rw [← hf1] at c4
        rw [← hf0]
        obtain ⟨z, hz⟩ : ∃ z, s.extract 0 y = z := ⟨_, rfl⟩
        have hzs : z.size = y := by rw [← hz, ByteArray.size_extract]; omega
        obtain ⟨mk, hmk⟩ : ∃ mk, sealG z unf = mk := ⟨_, rfl⟩
        have hms : mk.size = y + 4 := by rw [← hmk, sealG_size, hzs]
        obtain ⟨D, hD⟩ : ∃ D, mk.extract x (y + 4) = D := ⟨_, rfl⟩
        rw [hz, hmk, hD] at hpc
        have HMK := Lib.hid hmk
        have hzb : z.size ≤ 100000 := by omega
        have hs1 : ∀ wx, (Instr.slice 9 (.string s) none (some (.int .i64 y)) none).run Try.prog wx = .ok (.string z) wx := fun wx => by rw [← hz]; exact slice_to s y (by omega) wx
        have hs2 : ∀ wx, (Instr.slice 9 (.string mk) (some (.int .i64 x)) none none).run Try.prog wx = .ok (.string D) wx := fun wx => by rw [← hD, ← hms]; exact slice_from mk x (by omega) wx
        obtain ⟨bk, hbk⟩ : ∃ bk, decide (k = 0) = bk := ⟨_, rfl⟩
        obtain ⟨ck, hck⟩ : ∃ ck, cntAt k = ck := ⟨_, rfl⟩
        rw [hbk, hck] at hpc
        rw [hbk] at p0
        rw [hck] at p2
        have hp : MgT 45 wr Pb bk n ck d := by have := HR.out.1; rw [hbk, hck] at this; exact this
        have hJr := HR.out.2
        have HPC := Lib.hid hpc
        have hkm : (k : Int).tmod 4 = ((k % 4 : Nat) : Int) := by rw [Int.tmod_eq_emod_of_nonneg (by omega)]; omega
        have hcn : cntAt (k + 1) = ((k % 4 : Nat) : Int) := by unfold cntAt; rw [if_neg (by omega)]; rfl
        obtain ⟨ck2, hck2⟩ : ∃ ck2 : Int, ((k % 4 : Nat) : Int) = ck2 := ⟨_, rfl⟩
        rw [hck2] at hkm hcn
        have hckb : 0 ≤ ck2 ∧ ck2 ≤ 3 := by omega
        have hcw : IntKind.i64.wrap ck2 = ck2 := IntWalk.i64_in _ (by omega)
        have hcw2 : wrap64 ck2 = ck2 := by clear hcw; unfold wrap64; omega
        have hf := frI_succ cuts k
        have HF : Hid (frI cuts (k + 1) = (y : Int)) := Lib.hid hf1.symm
        clear hpc hmk hz hD hst h60 hf0 hf1 hf HR hbk hck hx hy
        have pf0 := pf 0
        have pf1 := pf 1
        have pf2 := pf 2
        have pf3 := pf 3
        gi_wp2
        refine ⟨trivial, ?_⟩
        gi_at_call 27
        refine (callsIn_wide.2 (mark_is z mk _ hzb HMK)).mono ?_
        rintro e w1 ⟨rfl, k1⟩
        have hp1 := mg_k hp k1
        clear p0 p1 p2 p3 pf0 pf1 pf2 pf3
        obtain ⟨p0, p1, p2, p3⟩ := mg_cells hp1
        have pf3 := mg_free hp1 3
        have hJ2 := HJx.out Pb _ wr (w1.setCell ⟨Pb, 3, none⟩ (.string D)) (by omega) hJr ((k1.toX Pb).trans (keepX_set _ _ _ _))
        have hp2 := mg_set hp1 D
        have hlt2 := mg_lt hp2
        obtain ⟨fn, tmps, assign, body, hy, hRR⟩ := HY.out Pb _ ⟨bk, n, ck, D⟩ (w1.setCell ⟨Pb, 3, none⟩ (.string D)) (by omega) hlt2 hJ2 (by rw [pcsK_length]; omega)
        dsimp only at hy
        gi_wp2
        refine hRR.mono ?_
        rintro e W3 ⟨rfl, hJ3, hP3⟩
        have hp3 : MgT 45 W3 Pb bk n ck D := hP3.trans hp2
        have hK3 := HJk.out _ _ _ hJ3
        clear c1 c3 c4 p0 p1 p2 p3 pf3 pf hP3
        have c1 := hK3.some hBn
        obtain ⟨p0, p1, p2, p3⟩ := mg_cells hp3
        have pf0 := mg_free hp3 0
        have pf1 := mg_free hp3 1
        have pf2 := mg_free hp3 2
        have pf3 := mg_free hp3 3
        gi_wp2
        go_roundw
        case rel =>
          have e1 : decide (k + 1 = 0) = false := by simp
          refine ⟨k + 1, ⟨#[]⟩, by omega, by rw [HF.out], by go_num, Lib.hid ⟨?_, ?_⟩⟩
          · rw [e1, hcn]
            exact mg_four hp3 false n ck2 ⟨#[]⟩
          · rw [pcsK_succ, HPC.out]
            exact HJx.out Pb _ W3 _ (by omega) hJ3 (keepX_four _ _ _ _ _ _)
        case measure => simp [intOf]; omega
      · obtain rfl : k = len := by omega
        have hok2 := okTo_less HO.out (show k ≤ cuts.length by omega)
        have hf0 := fr_eq hok2
        have hfl := okTo_fr hok2
        have hpc : pcAt s n cuts k = ⟨decide (k = 0), n, cntAt k, s.extract (fr cuts k) s.size⟩ := by unfold pcAt; rw [if_neg (by omega)]
        obtain ⟨x, hx⟩ : ∃ x, fr cuts k = x := ⟨_, rfl⟩
        rw [hx] at hf0 hpc
        rw [← hf0] at hfl
        rw [← hf0]
        obtain ⟨D, hD⟩ : ∃ D, s.extract x s.size = D := ⟨_, rfl⟩
        rw [hD] at hpc
        have hs2 : ∀ wx, (Instr.slice 9 (.string s) (some (.int .i64 x)) none none).run Try.prog wx = .ok (.string D) wx := fun wx => by rw [← hD]; exact slice_from s x (by omega) wx
        obtain ⟨bk, hbk⟩ : ∃ bk, decide (k = 0) = bk := ⟨_, rfl⟩
        obtain ⟨ck, hck⟩ : ∃ ck, cntAt k = ck := ⟨_, rfl⟩
        rw [hbk, hck] at hpc
        rw [hbk] at p0
        rw [hck] at p2
        have hp : MgT 45 wr Pb bk n ck d := by have := HR.out.1; rw [hbk, hck] at this; exact this
        have hJr := HR.out.2
        have HPC := Lib.hid hpc
        clear hpc hD hf0 HR hbk hck hx hok2 hfl
        have pf3 := pf 3
        have hJ2 := HJx.out Pb _ wr (wr.setCell ⟨Pb, 3, none⟩ (.string D)) (by omega) hJr (keepX_set _ _ _ _)
        have hp2 := mg_set hp D
        have hlt2 := mg_lt hp2
        obtain ⟨fn, tmps, assign, body, hy, hRR⟩ := HY.out Pb _ ⟨bk, n, ck, D⟩ (wr.setCell ⟨Pb, 3, none⟩ (.string D)) (by omega) hlt2 hJ2 (by rw [pcsK_length]; omega)
        dsimp only at hy
        gi_wp2
        refine hRR.mono ?_
        rintro e W3 ⟨rfl, hJ3, hP3⟩
        gi_wp2
        first | go_end0 | refine bodyPost_ret (results_none rfl _ _ _) rfl ?_
        refine ⟨⟨_, rfl⟩, Pb, ?_⟩
        unfold pcsL
        rw [hlen, pcsK_succ, HPC.out]
        exact hJ3
end Go.Proofs.Ytgejpbgpgklimaa
