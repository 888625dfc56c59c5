/- BucketMerges at any drafts and Booleans. -/
import Derived.Test.YtaknbjjcgcmdlaaLawMerges
namespace Go.Proofs.Ytaknbjjcgcmdlaa
open Go Go.RowKit

theorem merges_any (c0 c1 c2 c3 c4 c5 c6 c7 : Value) (pa : Option Addr) (pn pc : Nat) (pf : Nat → Bool) (w : World) (D1 : ∃ B R gs ss, DraftAt w (.agg #[c0, c1, c2, c3]) B R gs ss) (D2 : ∃ B R gs ss, DraftAt w (.agg #[c4, c5, c6, c7]) B R gs ss) (hP : BoolsAt w pa pn pf) :
    Calls Try.prog 3 #[.agg #[c0, c1, c2, c3, c4, c5, c6, c7], .slice pa pn pc] w (Res (.bool true) w) := by
  obtain ⟨B1, R1, gs1, ss1, D1⟩ := D1
  obtain ⟨B2, R2, gs2, ss2, D2⟩ := D2
  have E1 := D1
  have E2 := D2
  obtain ⟨⟨g1, s1, e1, hg1, hs1⟩, hb1, hr1⟩ := D1
  obtain ⟨⟨g2, s2, e2, hg2, hs2⟩, hb2, hr2⟩ := D2
  cases e1
  cases e2
  obtain ⟨ga1, gl1, gc1, rfl, -⟩ := hg1.form
  obtain ⟨sa1, sl1, sc1, rfl, -⟩ := hs1.form
  obtain ⟨ga2, gl2, gc2, rfl, -⟩ := hg2.form
  obtain ⟨sa2, sl2, sc2, rfl, -⟩ := hs2.form
  have b1 := okBk_iff.1 (okBk_of B1 R1)
  have b2 := okBk_iff.1 (okBk_of B2 R2)
  have t1 : okT (traceD gs1 ss1 (min ss1.length 30)) = true := okT_traceD hg1.1 hs1.1 (by omega)
  have t2 : okT (traceD gs2 ss2 (min ss2.length 30)) = true := okT_traceD hg2.1 hs2.1 (by omega)
  have n1 := (confL_sublist (1 + bOf B1 / 2) (1 + rOf R1 / 4) (traceD gs1 ss1 (min ss1.length 30))).length_le
  have n2 := (confL_sublist (1 + bOf B2 / 2) (1 + rOf R2 / 4) (traceD gs2 ss2 (min ss2.length 30))).length_le
  rw [traceD_len] at n1 n2
  exact merges_walk B1 R1 (bOf B1) (rOf R1) _ _ ga1 sa1 gl1 gc1 sl1 sc1 gs1 ss1 _ _ B2 R2 (bOf B2) (rOf R2) _ _ ga2 sa2 gl2 gc2 sl2 sc2 gs2 ss2 _ _ pa pn pc pf w
    (Lib.hid E1) (Lib.hid rfl) (Lib.hid rfl) rfl rfl ⟨b1.1, b1.2.1⟩ ⟨b1.2.2.1, b1.2.2.2⟩ (Lib.hid rfl) (Lib.hid rfl) (Lib.hid (okT_sub t1 (confL_sublist _ _ _))) (by omega)
    (Lib.hid E2) (Lib.hid rfl) (Lib.hid rfl) rfl rfl ⟨b2.1, b2.2.1⟩ ⟨b2.2.2.1, b2.2.2.2⟩ (Lib.hid rfl) (Lib.hid rfl) (Lib.hid (okT_sub t2 (confL_sublist _ _ _))) (by omega)
    (Lib.hid hP)
end Go.Proofs.Ytaknbjjcgcmdlaa
