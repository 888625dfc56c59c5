/- MergeMixed answers true for every input: pieces of four frames, one of each number, joined in any order: every frame that is returned is the frame of its number, and every state has the number of the last piece. Conditions: none. -/
import Derived.Test.YtgejpbgpgklimaaRows
import Derived.Test.YtgejpbgpgklimaaKeepPost
import Derived.Deep.DeepHandedRow
import Derived.OpenShut
import Derived.ChangeMaps5
import Derived.LaidLaws
import Derived.Test.YtgejpbgpgklimaaMArrD
import Derived.Test.YtgejpbgpgklimaaMLawMixed
namespace Go.Proofs.Ytgejpbgpgklimaa.mergeMixed
open Go Go.RowKit Go.ChangeShapes Go.WideShapes Go.ChangeAt

set_option maxRecDepth 100000 in
theorem own : ownKnob Try.prog.godebug = none := by kernel_rfl
set_option maxRecDepth 100000 in
theorem laidOut : laidOutB Try.prog = true := by kernel_rfl

set_option maxRecDepth 100000 in
theorem contract (H : Type) (enc : TypeId × Value → H) (W : World) (base : Nat) (args : Array Value) (ds gs : List (DataW H)) (before : List MemPlace)
    (hval : ∀ (j : Nat) t v, Try.f6.params[j]? = some t → args[j]? = some v → Value.okWide Try.prog W .any base t v)
    (hW : DataW.Whole enc Try.prog Try.f6.params.toList Rows.mergeMixedSpec.vars false W args.toList ds gs before) :
    Calls Try.prog 6 args W fun e W' => ∃ v, e = .returned v ∧ Rows.mergeMixedSpec.post enc Try.prog Try.f6 false true false false W args v W' := by
  have hW' := hW
  obtain ⟨p, q, hA0, hV, rfl, hfz, hnd⟩ := hW
  have hA : DataW.TrodAll enc Try.prog W 0 (fun _ => true) true Try.f6.params.toList args.toList ds p := hA0
  rw [Try.params6] at hA hval
  obtain ⟨v0, vs0, d0, ds0, p0, q0, hargs, rfl, rfl, h0, t0⟩ := trodAll_cons hA
  obtain ⟨v1, vs1, d1, ds1, p1, q1, rfl, rfl, rfl, h1, t1⟩ := trodAll_cons t0
  obtain ⟨rfl, rfl, rfl⟩ := trodAll_nil t1
  obtain rfl : args = #[v0, v1] := by cases args; simp_all
  obtain ⟨rfl, rfl⟩ := trodVars_none hV
  obtain ⟨aa, ab, ac, ae, xa, La, ga, Va, sa, xb, Lb, gb, Vb, sb, xc, Lc, gc, Vc, sc, xe, Le, ge, Ve, se, rfl, ha, hb, hc, he⟩ := mdr4_in (hval 0 59 v0 rfl rfl) h0
  obtain ⟨os1, hb1, hi1⟩ := border_in (hval 1 23 v1 rfl rfl) h1
  clear hA0
  simp only [List.append_nil] at hW'
  have m0 : ∀ x ∈ p0, x ∈ p0 ++ (p1 ++ ([])) := fun x hx => by simp [hx]
  have m1 : ∀ x ∈ p1, x ∈ p0 ++ (p1 ++ ([])) := fun x hx => by simp [hx]
  simp only [List.append_nil] at m0 m1
  have l0 : ∀ x ∈ p0, x.block < W.heap.size := fun x hx => by simpa using hW'.lt x (m0 x hx)
  have l1 : ∀ x ∈ p1, x.block < W.heap.size := fun x hx => by simpa using hW'.lt x (m1 x hx)
  have walk : Calls Try.prog 6 #[.agg #[.string xa, .int .u16 La, .int .u8 ga, Va, .string xb, .int .u16 Lb, .int .u8 gb, Vb, .string xc, .int .u16 Lc, .int .u8 gc, Vc, .string xe, .int .u16 Le, .int .u8 ge, Ve], v1] W (Res (.bool true) W) := by
    exact lawMixed_any (arr4 ⟨xa, La, ga, Va, sa⟩ ⟨xb, Lb, gb, Vb, sb⟩ ⟨xc, Lc, gc, Vc, sc⟩ ⟨xe, Le, ge, Ve, se⟩) v1 os1 W (arr4_ok (drI_ok ha) (drI_ok hb) (drI_ok hc) (drI_ok he)) hb1 hi1
  refine walk.mono fun e W' ⟨he, hg⟩ => ?_
  subst he
  exact ⟨_, rfl, post_of_keep (pa := p0 ++ (p1 ++ ([]))) (pv := []) hW' hg (fun _ _ _ => trodAll_cons_mk (shut_bool Try.underlying4 _) trodAll_mk0) (fun sp hsp => (trodAll_cons_mk (WideElems.Trod_stays laidOut (by kernel_rfl) (of_decide_eq_true (by kernel_rfl)) h0 (fun x hx => hg.sameAt (l0 x hx)) (fun x hx => hsp x (m0 x hx))) (trodAll_cons_mk (WideElems.Trod_stays laidOut (by kernel_rfl) (of_decide_eq_true (by kernel_rfl)) h1 (fun x hx => hg.sameAt (l1 x hx)) (fun x hx => hsp x (m1 x hx))) trodAll_mk0))) (fun _ _ => rfl) (by simp)
    (ok_one (by kernel_rfl) rfl (okWide_bool_mk Try.underlying4 _))⟩

set_option maxRecDepth 100000 in
theorem laid_met (os : Os) : laidMet Try.prog Rows.mergeMixedRow.laid ((World.holding Try.prog os ⟨#[], #[], []⟩).forCall (fun _ _ => 0) ⟨#[], #[.agg #[.string ⟨#[]⟩, .int .u16 0, .int .u8 0, .slice none 0 0, .string ⟨#[]⟩, .int .u16 0, .int .u8 0, .slice none 0 0, .string ⟨#[]⟩, .int .u16 0, .int .u8 0, .slice none 0 0, .string ⟨#[]⟩, .int .u16 0, .int .u8 0, .slice none 0 0], .slice none 0 0], []⟩).memory :=
  laidMet_of_run' 8 (by kernel_rfl) (by kernel_rfl)
set_option maxRecDepth 100000 in
theorem reads (os : Os) {H : Type} (enc : TypeId × Value → H) : ∃ places, DataW.whole enc Try.prog ((World.holding Try.prog os ⟨#[], #[], []⟩).forCall (fun _ _ => 0) ⟨#[], #[.agg #[.string ⟨#[]⟩, .int .u16 0, .int .u8 0, .slice none 0 0, .string ⟨#[]⟩, .int .u16 0, .int .u8 0, .slice none 0 0, .string ⟨#[]⟩, .int .u16 0, .int .u8 0, .slice none 0 0, .string ⟨#[]⟩, .int .u16 0, .int .u8 0, .slice none 0 0], .slice none 0 0], []⟩).memory Try.f6.params.toList Rows.mergeMixedSpec.vars false (#[.agg #[.string ⟨#[]⟩, .int .u16 0, .int .u8 0, .slice none 0 0, .string ⟨#[]⟩, .int .u16 0, .int .u8 0, .slice none 0 0, .string ⟨#[]⟩, .int .u16 0, .int .u8 0, .slice none 0 0, .string ⟨#[]⟩, .int .u16 0, .int .u8 0, .slice none 0 0], .slice none 0 0] : Array Value).toList 8 = some ([.agg [.agg [.lit (.string []), .lit (.int .u16 0), .lit (.int .u8 0), .nil], .agg [.lit (.string []), .lit (.int .u16 0), .lit (.int .u8 0), .nil], .agg [.lit (.string []), .lit (.int .u16 0), .lit (.int .u8 0), .nil], .agg [.lit (.string []), .lit (.int .u16 0), .lit (.int .u8 0), .nil]], .nil], [], places) :=
  ⟨[], by kernel_rfl⟩

set_option maxRecDepth 100000 in
theorem lifted (os : Os) (started : os.Started) (H : Type) (enc : TypeId × Value → H) (F : Stop.Interp) :
    ReturnsInHanded {} Try.checked os 6 .any ((OpenSpec.ofChange Rows.mergeMixedSpec).preRow enc Try.prog Try.f6 Rows.mergeMixedRow.domain false Rows.mergeMixedRow.laid) (((OpenSpec.ofChange Rows.mergeMixedSpec).at F).post enc Try.prog Try.f6 false true false false) := by
  obtain ⟨places, hx⟩ := reads os enc
  refine returnsInHanded_of_row (C := Try.checked) (s := OpenSpec.ofChange Rows.mergeMixedSpec) own started (by kernel_rfl) Try.func6
    (witness_row_at (enc := enc) (C := Try.checked) false (World.holding Try.prog os ⟨#[], #[], []⟩) #[.agg #[.string ⟨#[]⟩, .int .u16 0, .int .u8 0, .slice none 0 0, .string ⟨#[]⟩, .int .u16 0, .int .u8 0, .slice none 0 0, .string ⟨#[]⟩, .int .u16 0, .int .u8 0, .slice none 0 0, .string ⟨#[]⟩, .int .u16 0, .int .u8 0, .slice none 0 0], .slice none 0 0] rfl (by kernel_rfl) (by kernel_rfl) (by kernel_rfl)
      (OpenSpec.preRow_of_cond 8 hx (by kernel_rfl) (fun k hk => by cases hk) (by kernel_rfl) (laid_met os))) ?_
  intro W base args ds gs before hval hW _ _ _ _ _ _
  exact contract H enc W base args ds gs before hval hW

set_option maxRecDepth 100000 in
theorem said : Rows.MergeMixedSaid :=
  OpenClaim.holds_of_cond 6 Try.f6 rfl rfl rfl rfl rfl rfl rfl ⟨rfl, rfl, rfl, rfl, rfl⟩ rfl rfl rfl rfl rfl (by kernel_rfl) Try.func6 (by kernel_rfl)
    (of_decide_eq_true (by kernel_rfl)) (by unfold Func.isWrapper; first | (rw [if_pos (by decide +kernel)]; kernel_rfl) | (rw [if_neg (by decide +kernel)]; exact ⟨rfl, rfl⟩))
    (fun os started H enc _ F => by rw [OpenClaim.pre_eq_preRow]; exact lifted os started H enc F)
end Go.Proofs.Ytgejpbgpgklimaa.mergeMixed
