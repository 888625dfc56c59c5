/- CurveDelays answers true for every input: Delay of the program and of the reference return the same, for arbitrary buckets (cut to 13), for those of drafts (cut to 6), for both joined, for arbitrary services, for valid ones, and for those with about the first bucket's rate. Conditions: none. -/
import Derived.Test.YtmamadgikjkjdaaRows
import Derived.Test.YtmamadgikjkjdaaKeepPost
import Derived.Deep.DeepHandedRow
import Derived.OpenShut
import Derived.Test.YtmamadgikjkjdaaArrFour
import Derived.Test.YtmamadgikjkjdaaRowArg
import Derived.Test.YtmamadgikjkjdaaLawDelays
namespace Go.Proofs.Ytmamadgikjkjdaa.curveDelays
open Go Go.RowKit Go.ChangeShapes Go.WideShapes Go.ChangeAt

set_option maxRecDepth 100000 in
theorem own : ownKnob Try.prog.godebug = none := by kernel_rfl
set_option maxRecDepth 100000 in
theorem laidOut : laidOutB Try.prog = true := by kernel_rfl

set_option maxRecDepth 100000 in
theorem contract (H : Type) (enc : TypeId × Value → H) (W : World) (base : Nat) (args : Array Value) (ds gs : List (DataW H)) (before : List MemPlace)
    (hval : ∀ (j : Nat) t v, Try.f6.params[j]? = some t → args[j]? = some v → Value.okWide Try.prog W .any base t v)
    (hW : DataW.Whole enc Try.prog Try.f6.params.toList Rows.curveDelaysSpec.vars false W args.toList ds gs before) :
    Calls Try.prog 6 args W fun e W' => ∃ v, e = .returned v ∧ Rows.curveDelaysSpec.post enc Try.prog Try.f6 false true false false W args v W' := by
  have hW' := hW
  obtain ⟨p, q, hA0, hV, rfl, hfz, hnd⟩ := hW
  have hA : DataW.TrodAll enc Try.prog W 0 (fun _ => true) true Try.f6.params.toList args.toList ds p := hA0
  rw [Try.params6] at hA hval
  obtain ⟨v0, vs0, d0, ds0, p0, q0, hargs, rfl, rfl, h0, t0⟩ := trodAll_cons hA
  obtain ⟨v1, vs1, d1, ds1, p1, q1, rfl, rfl, rfl, h1, t1⟩ := trodAll_cons t0
  obtain ⟨v2, vs2, d2, ds2, p2, q2, rfl, rfl, rfl, h2, t2⟩ := trodAll_cons t1
  obtain ⟨v3, vs3, d3, ds3, p3, q3, rfl, rfl, rfl, h3, t3⟩ := trodAll_cons t2
  obtain ⟨v4, vs4, d4, ds4, p4, q4, rfl, rfl, rfl, h4, t4⟩ := trodAll_cons t3
  obtain ⟨rfl, rfl, rfl⟩ := trodAll_nil t4
  obtain rfl : args = #[v0, v1, v2, v3, v4] := by cases args; simp_all
  obtain ⟨rfl, rfl⟩ := trodVars_none hV
  obtain ⟨z0, RA0⟩ := buckets_in (hval 0 39 v0 rfl rfl) h0
  obtain ⟨adr, ndr, cdr, Bfr, Rfr, rfl, RA1⟩ := draftRow_in (hval 1 63 v1 rfl rfl) h1
  obtain ⟨sa, sb, rfl⟩ := serve_in (hval 2 54 v2 rfl rfl) h2
  obtain ⟨na, nb, rfl, rfl, -, wna, wnb⟩ := open_arr2 Try.underlying64 Try.underlying22 (by kernel_rfl) (by kernel_rfl) (hval 3 64 v3 rfl rfl) h3
  obtain ⟨ba, bb, rfl⟩ := bucket_in (hval 4 30 v4 rfl rfl) h4
  clear hA0
  simp only [List.append_nil] at hW'
  have m0 : ∀ x ∈ p0, x ∈ p0 ++ (p1 ++ (p2 ++ (p3 ++ (p4 ++ ([]))))) := fun x hx => by simp [hx]
  have m1 : ∀ x ∈ p1, x ∈ p0 ++ (p1 ++ (p2 ++ (p3 ++ (p4 ++ ([]))))) := fun x hx => by simp [hx]
  have m2 : ∀ x ∈ p2, x ∈ p0 ++ (p1 ++ (p2 ++ (p3 ++ (p4 ++ ([]))))) := fun x hx => by simp [hx]
  have m3 : ∀ x ∈ p3, x ∈ p0 ++ (p1 ++ (p2 ++ (p3 ++ (p4 ++ ([]))))) := fun x hx => by simp [hx]
  have m4 : ∀ x ∈ p4, x ∈ p0 ++ (p1 ++ (p2 ++ (p3 ++ (p4 ++ ([]))))) := fun x hx => by simp [hx]
  simp only [List.append_nil] at m0 m1 m2 m3 m4
  have l0 : ∀ x ∈ p0, x.block < W.heap.size := fun x hx => by simpa using hW'.lt x (m0 x hx)
  have l1 : ∀ x ∈ p1, x.block < W.heap.size := fun x hx => by simpa using hW'.lt x (m1 x hx)
  have l2 : ∀ x ∈ p2, x.block < W.heap.size := fun x hx => by simpa using hW'.lt x (m2 x hx)
  have l3 : ∀ x ∈ p3, x.block < W.heap.size := fun x hx => by simpa using hW'.lt x (m3 x hx)
  have l4 : ∀ x ∈ p4, x.block < W.heap.size := fun x hx => by simpa using hW'.lt x (m4 x hx)
  have walk : Calls Try.prog 6 #[v0, .slice adr ndr cdr, .agg #[.int .i64 sa, .int .i64 sb], .agg #[.int .u32 na, .int .u32 nb], .agg #[.int .i64 ba, .int .i64 bb]] W (Res (.bool true) W) := by
    have bna : 0 ≤ na ∧ na ≤ 4294967295 := u32_bd wna
    have bnb : 0 ≤ nb ∧ nb ≤ 4294967295 := u32_bd wnb
    exact lawDelays_any v0 z0 adr ndr cdr Bfr Rfr sa sb na nb ba bb W RA0 RA1 bna bnb
  refine walk.mono fun e W' ⟨he, hg⟩ => ?_
  subst he
  exact ⟨_, rfl, post_of_keep (pa := p0 ++ (p1 ++ (p2 ++ (p3 ++ (p4 ++ ([])))))) (pv := []) hW' hg (fun _ _ _ => trodAll_cons_mk (shut_bool Try.underlying4 _) trodAll_mk0) (fun sp hsp => (trodAll_cons_mk (WideElems.Trod_stays laidOut (by kernel_rfl) (of_decide_eq_true (by kernel_rfl)) h0 (fun x hx => hg.sameAt (l0 x hx)) (fun x hx => hsp x (m0 x hx))) (trodAll_cons_mk (WideElems.Trod_stays laidOut (by kernel_rfl) (of_decide_eq_true (by kernel_rfl)) h1 (fun x hx => hg.sameAt (l1 x hx)) (fun x hx => hsp x (m1 x hx))) (trodAll_cons_mk (WideElems.Trod_stays laidOut (by kernel_rfl) (of_decide_eq_true (by kernel_rfl)) h2 (fun x hx => hg.sameAt (l2 x hx)) (fun x hx => hsp x (m2 x hx))) (trodAll_cons_mk (WideElems.Trod_stays laidOut (by kernel_rfl) (of_decide_eq_true (by kernel_rfl)) h3 (fun x hx => hg.sameAt (l3 x hx)) (fun x hx => hsp x (m3 x hx))) (trodAll_cons_mk (WideElems.Trod_stays laidOut (by kernel_rfl) (of_decide_eq_true (by kernel_rfl)) h4 (fun x hx => hg.sameAt (l4 x hx)) (fun x hx => hsp x (m4 x hx))) trodAll_mk0)))))) (fun _ _ => rfl) (by simp)
    (ok_one (by kernel_rfl) rfl (okWide_bool_mk Try.underlying4 _))⟩

set_option maxRecDepth 100000 in
theorem laid_met (os : Os) : laidMet Try.prog Rows.curveDelaysRow.laid ((World.holding Try.prog os ⟨#[], #[], []⟩).forCall (fun _ _ => 0) ⟨#[], #[.slice none 0 0, .slice none 0 0, .agg #[.int .i64 0, .int .i64 0], .agg #[.int .u32 0, .int .u32 0], .agg #[.int .i64 0, .int .i64 0]], []⟩).memory :=
  laidMet_of_run' 8 (by kernel_rfl) (by kernel_rfl)
set_option maxRecDepth 100000 in
theorem reads (os : Os) {H : Type} (enc : TypeId × Value → H) : ∃ places, DataW.whole enc Try.prog ((World.holding Try.prog os ⟨#[], #[], []⟩).forCall (fun _ _ => 0) ⟨#[], #[.slice none 0 0, .slice none 0 0, .agg #[.int .i64 0, .int .i64 0], .agg #[.int .u32 0, .int .u32 0], .agg #[.int .i64 0, .int .i64 0]], []⟩).memory Try.f6.params.toList Rows.curveDelaysSpec.vars false (#[.slice none 0 0, .slice none 0 0, .agg #[.int .i64 0, .int .i64 0], .agg #[.int .u32 0, .int .u32 0], .agg #[.int .i64 0, .int .i64 0]] : Array Value).toList 8 = some ([.nil, .nil, .agg [.lit (.int .i64 0), .lit (.int .i64 0)], .agg [.lit (.int .u32 0), .lit (.int .u32 0)], .agg [.lit (.int .i64 0), .lit (.int .i64 0)]], [], places) :=
  ⟨[], by kernel_rfl⟩

set_option maxRecDepth 100000 in
theorem lifted (os : Os) (started : os.Started) (H : Type) (enc : TypeId × Value → H) (F : Stop.Interp) :
    ReturnsInHanded {} Try.checked os 6 .any ((OpenSpec.ofChange Rows.curveDelaysSpec).preRow enc Try.prog Try.f6 Rows.curveDelaysRow.domain false Rows.curveDelaysRow.laid) (((OpenSpec.ofChange Rows.curveDelaysSpec).at F).post enc Try.prog Try.f6 false true false false) := by
  obtain ⟨places, hx⟩ := reads os enc
  refine returnsInHanded_of_row (C := Try.checked) (s := OpenSpec.ofChange Rows.curveDelaysSpec) own started (by kernel_rfl) Try.func6
    (witness_row_at (enc := enc) (C := Try.checked) false (World.holding Try.prog os ⟨#[], #[], []⟩) #[.slice none 0 0, .slice none 0 0, .agg #[.int .i64 0, .int .i64 0], .agg #[.int .u32 0, .int .u32 0], .agg #[.int .i64 0, .int .i64 0]] rfl (by kernel_rfl) (by kernel_rfl) (by kernel_rfl)
      (OpenSpec.preRow_of_cond 8 hx (by kernel_rfl) (fun k hk => by cases hk) (by kernel_rfl) (laid_met os))) ?_
  intro W base args ds gs before hval hW _ _ _ _ _ _
  exact contract H enc W base args ds gs before hval hW

set_option maxRecDepth 100000 in
theorem said : Rows.CurveDelaysSaid :=
  OpenClaim.holds_of_cond 6 Try.f6 rfl rfl rfl rfl rfl rfl rfl ⟨rfl, rfl, rfl, rfl, rfl⟩ rfl rfl rfl rfl rfl (by kernel_rfl) Try.func6 (by kernel_rfl)
    (of_decide_eq_true (by kernel_rfl)) (by unfold Func.isWrapper; first | (rw [if_pos (by decide +kernel)]; kernel_rfl) | (rw [if_neg (by decide +kernel)]; exact ⟨rfl, rfl⟩))
    (fun os started H enc _ F => by rw [OpenClaim.pre_eq_preRow]; exact lifted os started H enc F)
end Go.Proofs.Ytmamadgikjkjdaa.curveDelays
