/- A region that draws its order, by one condition on what has come up: shown once an operation, whatever the order ('go_region_with' branches over every order of several allocations and calls). -/
import Derived.Test.YtgejpbgpgklimaaKeep
import Derived.ProofKit
import Derived.WalkKit
import Derived.Lib.Hide
import Derived.RegionTactic
import Derived.Deep.RegionHeld3
namespace Go.Proofs.Ytgejpbgpgklimaa
open Go Go.RowKit

section
variable {P : Program} {ops : Array Oper} {Q : Exit → Act → World → Prop} {md : Region.Mode} {J : (Nat → Prop) → Act → World → Prop}

/-- What is to be shown of operation number k: it keeps J; b holds of the numbers that have come up. -/
def StepAt (P : Program) (md : Region.Mode) (ops : Array Oper) (Q : Exit → Act → World → Prop) (J : (Nat → Prop) → Act → World → Prop) (k : Nat) (o : Oper) : Prop :=
  ∀ (b : Nat → Prop) (a : Act) (w : World), ¬ b k → (∀ e ∈ o.after, Region.binds md e = true → b e.on) → J b a w →
    ∀ K : Act → World → Prop, (∀ a' w', J (fun j => j = k ∨ b j) a' w' → K a' w') → if Region.wanted o (yielded ops a.tmps) = true then Oper.wp P o a w K Q else K (a.put o.dst undef) w
/-- The same of all operations from number k on. -/
def StepsFrom (P : Program) (md : Region.Mode) (ops : Array Oper) (Q : Exit → Act → World → Prop) (J : (Nat → Prop) → Act → World → Prop) : Nat → List Oper → Prop
  | _, [] => True
  | k, o :: l => StepAt P md ops Q J k o ∧ StepsFrom P md ops Q J (k + 1) l
theorem StepsFrom.get : ∀ (l : List Oper) (k i : Nat) (o : Oper), StepsFrom P md ops Q J k l → l[i]? = some o → StepAt P md ops Q J (k + i) o
  | [], _, _, _, _, h => by simp at h
  | o' :: l, k, 0, o, hs, h => by
    simp at h; subst h; exact hs.1
  | o' :: l, k, i + 1, o, hs, h => by
    have := StepsFrom.get l (k + 1) i o hs.2 (by simpa using h)
    rwa [show k + (i + 1) = k + 1 + i by omega]

/-- Each operation waits for earlier ones alone. -/
def Earlier (md : Region.Mode) : Nat → List Oper → Bool
  | _, [] => true
  | k, o :: l => (o.after.all fun e => !Region.binds md e || decide (e.on < k)) && Earlier md (k + 1) l
theorem Earlier.get : ∀ (l : List Oper) (k i : Nat) (o : Oper), Earlier md k l = true → l[i]? = some o → ∀ e ∈ o.after, Region.binds md e = true → e.on < k + i
  | [], _, _, _, _, h => by simp at h
  | o' :: l, k, 0, o, hs, h => by
    simp at h; subst h
    intro e he hb
    have h1 := (Bool.and_eq_true_iff.1 hs).1
    have := Array.all_eq_true_iff_forall_mem.1 h1 e he
    simpa [hb] using this
  | o' :: l, k, i + 1, o, hs, h => by
    have := Earlier.get l (k + 1) i o (Bool.and_eq_true_iff.1 hs).2 (by simpa using h)
    rwa [show k + (i + 1) = k + 1 + i by omega]

theorem count_set_false {l : List Bool} {i : Nat} (h : l[i]? = some false) : (l.set i true).count false + 1 = l.count false := by
  induction l generalizing i with
  | nil => simp at h
  | cons x l ih =>
    cases i with
    | zero => simp at h; subst h; simp
    | succ i =>
      have := ih (i := i) (by simpa using h)
      rw [List.set_cons_succ, List.count_cons, List.count_cons]
      omega
theorem count_zero {l : List Bool} (h : l.count false = 0) (i : Nat) (hi : i < l.length) : l[i]? = some true := by
  have hm : false ∉ l := List.count_eq_zero.1 h
  rw [List.getElem?_eq_getElem hi]
  cases e : l[i] with
  | true => rfl
  | false => exact absurd (e ▸ List.getElem_mem hi) hm

theorem wpAny_inv (hwf : Earlier md 0 ops.toList = true)
    (hdone : ∀ (b : Nat → Prop) a w, (∀ k, k < ops.size → b k) → J b a w → Q .normal a w) (hs : StepsFrom P md ops Q J 0 ops.toList) :
    ∀ (fuel : Nat) (listed : Array Bool) (a : Act) (w : World), listed.size = ops.size → listed.toList.count false ≤ fuel → J (fun k => listed.getD k false = true) a w → wpAny P md ops Q fuel listed a w := by
  intro fuel
  induction fuel with
  | zero =>
    intro listed a w hsz hc hJ
    have hall : ∀ k, k < ops.size → listed[k]? = some true := fun k hk => by
      have := count_zero (Nat.le_zero.1 hc) k (by simpa [hsz] using hk)
      simpa using this
    refine ⟨?_, hdone _ a w (fun k hk => by simp [Array.getD_eq_getD_getElem?, hall k hk]) hJ⟩
    rw [List.eq_nil_iff_forall_not_mem]
    intro j hj
    obtain ⟨h1, o, ho, -⟩ := mem_ready.1 hj
    have hj' : j < ops.size := (Array.getElem?_eq_some_iff.1 ho).1
    rw [Array.getD_eq_getD_getElem?, hall j hj'] at h1
    simp at h1
  | succ fuel ih =>
    intro listed a w hsz hc hJ
    refine ⟨fun h0 => ?_, fun i hi => ?_⟩
    · have hall : ∀ n k, k < n → k < ops.size → listed.getD k false = true := by
        intro n
        induction n with
        | zero => intro k hk; omega
        | succ n ihn =>
          intro k hk hks
          rcases Nat.lt_or_ge k n with h | h
          · exact ihn k h hks
          · cases hv : listed.getD k false with
            | true => rfl
            | false =>
              exfalso
              have hr : k ∈ Region.ready md ops listed := by
                have hko : ops[k]? = some ops[k] := Array.getElem?_eq_getElem hks
                refine mem_ready.2 ⟨?_, ops[k], hko, fun e he hb => ?_⟩
                · have hkl : k < listed.size := by omega
                  simpa [Array.getD_eq_getD_getElem?, hkl] using hv
                · have hlt := Earlier.get ops.toList 0 k ops[k] hwf (by simp) e he hb
                  exact ihn e.on (by omega) (by omega)
              rw [h0] at hr
              cases hr
      exact hdone _ a w (fun k hk => hall (k + 1) k (by omega) hk) hJ
    · obtain ⟨h1, o, ho, hd⟩ := mem_ready.1 hi
      have hio : i < ops.size := (Array.getElem?_eq_some_iff.1 ho).1
      have hil : listed[i]? = some false := by
        have hkl : i < listed.size := by omega
        rw [Array.getElem?_eq_getElem hkl]
        simpa [Array.getD_eq_getD_getElem?, hkl] using h1
      have hst := StepsFrom.get ops.toList 0 i o hs (by simpa using ho)
      rw [Nat.zero_add] at hst
      refine wpOp_step ho (fun K' hK => hst (fun k => listed.getD k false = true) a w (by simp [Array.getD_eq_getD_getElem?, hil]) hd hJ K' (fun a' w' hJ' => hK _ _ (ih _ _ _ (by simpa using hsz) ?_ ?_)))
      · have := count_set_false (l := listed.toList) (i := i) (by simpa using hil)
        rw [Array.toList_setIfInBounds]
        omega
      · have eb : (fun k => (listed.setIfInBounds i true).getD k false = true) = fun j => j = i ∨ listed.getD j false = true := by
          funext k
          by_cases hki : k = i
          · subst hki
            have hkl : k < listed.size := by omega
            simp [Array.getD_eq_getD_getElem?, hkl]
          · rw [getD_set_ne false (fun h => hki h.symm)]
            simp [hki]
        rw [eb]
        exact hJ'
theorem StepsFrom.cons {k : Nat} {o : Oper} {l : List Oper} (h : StepAt P md ops Q J k o) (t : StepsFrom P md ops Q J (k + 1) l) : StepsFrom P md ops Q J k (o :: l) := ⟨h, t⟩
theorem StepsFrom.nil {k : Nat} : StepsFrom P md ops Q J k [] := trivial

/-- The whole region. -/
theorem region_inv {id : Nat} {a : Act} {w : World} (hm : P.follows .mixedOrders = true) (hwf : Earlier .any 0 ops.toList = true)
    (hdone : ∀ (b : Nat → Prop) a w, (∀ k, k < ops.size → b k) → J b a w → Q .normal a w) (hstart : J (fun _ => False) a w.drew) (hs : StepsFrom P .any ops Q J 0 ops.toList) :
    (Code.region id ops true).wp P Q a w := by
  refine wp_region_any hm ?_
  change wpAny _ _ _ _ _ _ _ (World.drew _)
  refine wpAny_inv hwf hdone hs _ _ _ _ (by simp) (by simp) ?_
  have eb : (fun k => (Array.replicate ops.size false).getD k false = true) = fun _ => False := by
    funext k
    rw [Array.getD_eq_getD_getElem?, Array.getElem?_replicate]
    split <;> simp
  rw [eb]
  exact hstart
theorem up {k i : Nat} {p F : Prop} (hne : k ≠ i) (f : p → F) : (k = i ∨ p) → F := fun h => f (h.resolve_left hne)
theorem down {k i : Nat} {p : Prop} (hne : k ≠ i) : (k = i ∨ p) → p := fun h => h.resolve_left hne
end

end Go.Proofs.Ytgejpbgpgklimaa
