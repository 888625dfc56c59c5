/- A region that draws its order, whose operations keep what was there: one fact for each operation's slot, shown once, whatever the order. The frame stays a variable while an operation is run: the cost is that of the operations, not their number times the frame. -/
import Derived.Test.YtgejpbgpgklimaaRegion
namespace Go.Proofs.Ytgejpbgpgklimaa
open Go Go.RowKit

section
variable {P : Program} {ops : Array Oper} {Q : Exit → Act → World → Prop}

def dstOf (ops : Array Oper) (k : Nat) : Option Nat := (ops[k]?).bind (·.dst)
/-- No two operations write one slot. -/
def dstsOnce (ops : Array Oper) : Bool := (List.range ops.size).all fun i => (List.range ops.size).all fun j => i == j || dstOf ops i == none || dstOf ops i != dstOf ops j
theorem dstsOnce_eq {i j d : Nat} (h : dstsOnce ops = true) (hi : dstOf ops i = some d) (hj : dstOf ops j = some d) : i = j := by
  have bi : ∀ k, dstOf ops k = some d → k < ops.size := fun k hk => by
    rcases Nat.lt_or_ge k ops.size with h | h
    · exact h
    · unfold dstOf at hk; rw [Array.getElem?_eq_none h] at hk; cases hk
  unfold dstsOnce at h
  rw [List.all_eq_true] at h
  have h1 := h i (List.mem_range.2 (bi i hi))
  rw [List.all_eq_true] at h1
  have h2 := h1 j (List.mem_range.2 (bi j hj))
  rw [hi, hj] at h2
  simpa using h2
/-- No operation writes slot t. -/
def noDst (ops : Array Oper) (t : Nat) : Bool := (List.range ops.size).all fun i => dstOf ops i != some t
theorem noDst_ne {t k : Nat} (h : noDst ops t = true) : dstOf ops k ≠ some t := by
  intro hk
  rcases Nat.lt_or_ge k ops.size with hl | hl
  · unfold noDst at h
    rw [List.all_eq_true] at h
    have := h k (List.mem_range.2 hl)
    rw [hk] at this
    simp at this
  · unfold dstOf at hk; rw [Array.getElem?_eq_none hl] at hk; cases hk
/-- An operation waits for number j. -/
def waitsFor (o : Oper) (j : Nat) : Bool := o.after.any fun e => Region.binds .any e && e.on == j
theorem waitsFor_up {o : Oper} {j : Nat} {bb : Nat → Prop} (h : waitsFor o j = true) (hd : ∀ e ∈ o.after, Region.binds .any e = true → bb e.on) : bb j := by
  unfold waitsFor at h
  rw [← Array.any_toList, List.any_eq_true] at h
  obtain ⟨e, he, h2⟩ := h
  rw [Bool.and_eq_true, beq_iff_eq] at h2
  rw [← h2.2]
  exact hd e (by simpa using he) h2.1

structure LinJ (T0 : Array Value) (W0 : World) (ops : Array Oper) (F : Nat → Value → World → Prop) (bb : Nat → Prop) (a : Act) (w : World) : Prop where
  defers : a.defers = []
  size : a.tmps.size = T0.size
  old : ∀ t : Nat, (∀ k, bb k → dstOf ops k ≠ some t) → a.tmps[t]? = T0[t]?
  closed : ∀ k, bb k → ∀ o, ops[k]? = some o → ∀ e ∈ o.after, Region.binds .any e = true → bb e.on
  keep : Keep W0 w
  fact : ∀ k d, bb k → dstOf ops k = some d → ∃ v, a.tmps[d]? = some v ∧ F k v w

/-- What is to be shown of operation number k. -/
def LinStep (P : Program) (T0 : Array Value) (W0 : World) (ops : Array Oper) (F : Nat → Value → World → Prop) (k : Nat) (o : Oper) : Prop :=
  ∀ (Q : Exit → Act → World → Prop) (bb : Nat → Prop) (T : Array Value) (w : World), ¬ bb k → LinJ T0 W0 ops F bb ⟨T, []⟩ w → (∀ e ∈ o.after, Region.binds .any e = true → bb e.on) →
    ∀ K : Act → World → Prop, (∀ v w', Keep w w' → F k v w' → K (Act.put ⟨T, []⟩ o.dst v) w') → if Region.wanted o (yielded ops T) = true then Oper.wp P o ⟨T, []⟩ w K Q else K (Act.put ⟨T, []⟩ o.dst undef) w
def LinSteps (P : Program) (T0 : Array Value) (W0 : World) (ops : Array Oper) (F : Nat → Value → World → Prop) : Nat → List Oper → Prop
  | _, [] => True
  | k, o :: l => LinStep P T0 W0 ops F k o ∧ LinSteps P T0 W0 ops F (k + 1) l
theorem LinSteps.cons {T0 : Array Value} {W0 : World} {F : Nat → Value → World → Prop} {k : Nat} {o : Oper} {l : List Oper} (h : LinStep P T0 W0 ops F k o) (t : LinSteps P T0 W0 ops F (k + 1) l) : LinSteps P T0 W0 ops F k (o :: l) := ⟨h, t⟩
theorem LinSteps.nil {T0 : Array Value} {W0 : World} {F : Nat → Value → World → Prop} {k : Nat} : LinSteps P T0 W0 ops F k [] := trivial

theorem LinJ.oldSlot {T0 : Array Value} {W0 : World} {F : Nat → Value → World → Prop} {bb : Nat → Prop} {T : Array Value} {w : World} (h : LinJ T0 W0 ops F bb ⟨T, []⟩ w) (t : Nat) (hn : noDst ops t = true) : T[t]? = T0[t]? :=
  h.old t fun _ _ => noDst_ne hn
/-- A slot that a later operation will write is as it was. -/
theorem LinJ.yetSlot {T0 : Array Value} {W0 : World} {F : Nat → Value → World → Prop} {bb : Nat → Prop} {T : Array Value} {w : World} (h : LinJ T0 W0 ops F bb ⟨T, []⟩ w) (t k j : Nat) (hone : dstsOnce ops = true) (hj : dstOf ops j = some t) (hk : ¬ bb k) (o : Oper) (ho : ops[j]? = some o) (hw : waitsFor o k = true) : T[t]? = T0[t]? :=
  h.old t fun i hi he => by
    obtain rfl := dstsOnce_eq hone he hj
    exact hk (waitsFor_up hw (h.closed i hi o ho))
theorem LinJ.dep {T0 : Array Value} {W0 : World} {F : Nat → Value → World → Prop} {bb : Nat → Prop} {T : Array Value} {w : World} (h : LinJ T0 W0 ops F bb ⟨T, []⟩ w) {o : Oper} (hd : ∀ e ∈ o.after, Region.binds .any e = true → bb e.on) (k d : Nat) (hw : waitsFor o k = true) (hk : dstOf ops k = some d) : ∃ v, T[d]? = some v ∧ F k v w :=
  h.fact k d (waitsFor_up hw hd) hk
theorem yielded_of {T : Array Value} {j d : Nat} {b : Bool} (hj : dstOf ops j = some d) (h : T[d]? = some (.bool b)) : yielded ops T j = some b := by
  unfold dstOf at hj
  unfold yielded
  rw [hj]
  simp [h]

theorem LinStep.plain {T0 : Array Value} {W0 : World} {F : Nat → Value → World → Prop} {k : Nat} {o : Oper} (hg : o.guard = none)
    (h : ∀ (Q : Exit → Act → World → Prop) (bb : Nat → Prop) (T : Array Value) (w : World), ¬ bb k → LinJ T0 W0 ops F bb ⟨T, []⟩ w → (∀ e ∈ o.after, Region.binds .any e = true → bb e.on) →
      ∀ K : Act → World → Prop, Hid (∀ v w', Keep w w' → F k v w' → K (Act.put ⟨T, []⟩ o.dst v) w') → Oper.wp P o ⟨T, []⟩ w K Q) : LinStep P T0 W0 ops F k o := by
  intro Q bb T w hn hJ hd K hK
  rw [if_pos (by unfold Region.wanted; rw [hg])]
  exact h Q bb T w hn hJ hd K (Lib.hid hK)
/-- An operation whose guard has come up as it wants. -/
theorem LinStep.guarded {T0 : Array Value} {W0 : World} {F : Nat → Value → World → Prop} {k : Nat} {o : Oper} (j d : Nat) (b : Bool) (hg : o.guard = some (j, b)) (hj : dstOf ops j = some d) (hw : waitsFor o j = true) (hy : ∀ v w, F j v w → v = .bool b)
    (h : ∀ (Q : Exit → Act → World → Prop) (bb : Nat → Prop) (T : Array Value) (w : World), ¬ bb k → LinJ T0 W0 ops F bb ⟨T, []⟩ w → (∀ e ∈ o.after, Region.binds .any e = true → bb e.on) →
      ∀ K : Act → World → Prop, Hid (∀ v w', Keep w w' → F k v w' → K (Act.put ⟨T, []⟩ o.dst v) w') → Oper.wp P o ⟨T, []⟩ w K Q) : LinStep P T0 W0 ops F k o := by
  intro Q bb T w hn hJ hd K hK
  obtain ⟨v, hv, hf⟩ := hJ.dep hd j d hw hj
  rw [if_pos (by unfold Region.wanted; rw [hg]; simp [yielded_of hj (by rw [hv, hy v w hf])])]
  exact h Q bb T w hn hJ hd K (Lib.hid hK)
/-- An operation whose guard has come up otherwise. -/
theorem LinStep.skipped {T0 : Array Value} {W0 : World} {F : Nat → Value → World → Prop} {k : Nat} {o : Oper} (j d : Nat) (b : Bool) (hg : o.guard = some (j, b)) (hj : dstOf ops j = some d) (hw : waitsFor o j = true) (hy : ∀ v w, F j v w → v = .bool (!b)) (hF : ∀ w, F k undef w) :
    LinStep P T0 W0 ops F k o := by
  intro Q bb T w hn hJ hd K hK
  obtain ⟨v, hv, hf⟩ := hJ.dep hd j d hw hj
  rw [if_neg (by unfold Region.wanted; rw [hg]; simp [yielded_of hj (show T[d]? = some (.bool (!b)) by rw [hv, hy v w hf])])]
  exact hK _ _ (Keep.refl _) (hF w)

theorem iteWanted {c : Prop} [Decidable c] {p q : Prop} (h : if c then p else q) : if c then p else q := h

/-- Facts as a list. -/
abbrev Fct := Value → World → Prop
def listF (L : List Fct) (k : Nat) (v : Value) (w : World) : Prop := ((L[k]?).getD (fun _ _ => True)) v w
def Stable : List Fct → Prop
  | [] => True
  | f :: l => (∀ v w w', Keep w w' → f v w → f v w') ∧ Stable l
theorem listF_stable : ∀ (L : List Fct), Stable L → ∀ k v w w', Keep w w' → listF L k v w → listF L k v w'
  | [], _, k, v, w, w', _, _ => by unfold listF; simp
  | f :: l, h, 0, v, w, w', hk, hf => h.1 v w w' hk hf
  | f :: l, h, k + 1, v, w, w', hk, hf => by
    have := listF_stable l h.2 k v w w' hk (by unfold listF at hf ⊢; simpa using hf)
    unfold listF at this ⊢
    simpa using this

theorem region_lin {id : Nat} {T0 : Array Value} {W0 w : World} (F : Nat → Value → World → Prop) (hF : ∀ k v w w', Keep w w' → F k v w → F k v w') (hm : P.follows .mixedOrders = true) (hwf : Earlier .any 0 ops.toList = true) (hone : dstsOnce ops = true)
    (hin : ((List.range ops.size).all fun k => match dstOf ops k with | some d => decide (d < T0.size) | none => true) = true) (hw : Keep W0 w)
    (hdone : ∀ T w, LinJ T0 W0 ops F (fun k => k < ops.size) ⟨T, []⟩ w → Q .normal ⟨T, []⟩ w) (hs : LinSteps P T0 W0 ops F 0 ops.toList) :
    (Code.region id ops true).wp P Q ⟨T0, []⟩ w := by
  refine region_inv (J := LinJ T0 W0 ops F) hm hwf ?_ ?_ ?_
  · rintro bb ⟨T, ds⟩ w' hb hJ
    obtain rfl : ds = [] := hJ.defers
    refine hdone T w' ⟨rfl, hJ.size, fun t ht => hJ.old t fun k _ hk => ?_, fun k hk o ho e he hbi => ?_, hJ.keep, fun k d hk hd => hJ.fact k d (hb k hk) hd⟩
    · rcases Nat.lt_or_ge k ops.size with h | h
      · exact ht k h hk
      · unfold dstOf at hk; rw [Array.getElem?_eq_none h] at hk; cases hk
    · have := Earlier.get ops.toList 0 k o hwf (by simpa using ho) e he hbi
      show e.on < ops.size
      have hk' : k < ops.size := hk
      omega
  · exact ⟨rfl, rfl, fun _ _ => rfl, fun _ h => h.elim, hw.drew, fun _ _ h => h.elim⟩
  · have key : ∀ (l : List Oper) (k : Nat), (∀ i o, l[i]? = some o → ops[k + i]? = some o) → LinSteps P T0 W0 ops F k l → StepsFrom P .any ops Q (LinJ T0 W0 ops F) k l := by
      intro l
      induction l with
      | nil => intro k _ _; exact trivial
      | cons o l ih =>
        intro k hl hS
        have ho : ops[k]? = some o := by simpa using hl 0 o rfl
        have hks : k < ops.size := (Array.getElem?_eq_some_iff.1 ho).1
        refine ⟨?_, ih (k + 1) (fun i o' h => by have := hl (i + 1) o' (by simpa using h); rwa [show k + (i + 1) = k + 1 + i by omega] at this) hS.2⟩
        rintro bb ⟨T, ds⟩ w' hn hd hJ K hK
        obtain rfl : ds = [] := hJ.defers
        refine iteWanted (hS.1 Q bb T w' hn hJ hd K fun v w2 hk2 hf => hK _ _ ?_)
        have hdst : dstOf ops k = o.dst := by unfold dstOf; rw [ho]; rfl
        have hbd : ∀ d, o.dst = some d → d < T.size := fun d hd' => by
          have h1 := List.all_eq_true.1 hin k (List.mem_range.2 hks)
          rw [hdst, hd'] at h1
          have h2 : d < T0.size := of_decide_eq_true h1
          have h3 : T.size = T0.size := hJ.size
          rw [h3]; exact h2
        have hput : ∀ t : Nat, o.dst ≠ some t → (Act.put ⟨T, []⟩ o.dst v).tmps[t]? = T[t]? := fun t ht => by
          unfold Act.put
          cases hdd : o.dst with
          | none => rfl
          | some d =>
            have : d ≠ t := fun h => ht (by rw [hdd, h])
            simp [this]
        have hsame : ∀ d, o.dst = some d → (Act.put ⟨T, []⟩ o.dst v).tmps[d]? = some v := fun d hdd => by
          have := hbd d hdd
          unfold Act.put
          rw [hdd]
          simp [this]
        refine ⟨?_, ?_, ?_, ?_, hJ.keep.trans hk2, ?_⟩
        · unfold Act.put; split <;> rfl
        · rw [← hJ.size]; unfold Act.put; split <;> simp
        · intro t ht
          rw [hput t (fun h => ht k (Or.inl rfl) (by rw [hdst]; exact h))]
          exact hJ.old t fun i hi => ht i (Or.inr hi)
        · rintro i (rfl | hi) o' ho' e he hb
          · rw [ho] at ho'
            obtain rfl : o = o' := by simpa using ho'
            exact Or.inr (hd e he hb)
          · exact Or.inr (hJ.closed i hi o' ho' e he hb)
        · rintro i d (rfl | hi) hid
          · rw [hdst] at hid
            exact ⟨v, hsame d hid, hf⟩
          · obtain ⟨u, hu, hfu⟩ := hJ.fact i d hi hid
            refine ⟨u, ?_, hF _ _ _ _ hk2 hfu⟩
            rw [hput d (fun h => ?_)]
            · exact hu
            · have : i = k := dstsOnce_eq hone hid (by rw [hdst]; exact h)
              subst this
              exact hn hi
    exact key ops.toList 0 (fun i o h => by simpa using h) hs

/-- The frame behind it. -/
theorem LinJ.frame {T0 : Array Value} {W0 : World} {F : Nat → Value → World → Prop} {T : Array Value} {w : World} (h : LinJ T0 W0 ops F (fun k => k < ops.size) ⟨T, []⟩ w) (L : List (Nat × Value)) (hL : ∀ p ∈ L, T[p.1]? = some p.2)
    (hall : ((List.range ops.size).all fun k => match dstOf ops k with | some d => (L.map Prod.fst).contains d | none => true) = true) : T = L.foldl (fun A p => A.setIfInBounds p.1 p.2) T0 := by
  have main : ∀ (L : List (Nat × Value)) (A : Array Value), (∀ p ∈ L, T[p.1]? = some p.2) → A.size = T.size → (∀ t : Nat, (∀ p ∈ L, p.1 ≠ t) → T[t]? = A[t]?) → T = L.foldl (fun A p => A.setIfInBounds p.1 p.2) A := by
    intro L
    induction L with
    | nil => intro A _ _ h3; exact Array.ext_getElem? fun t => h3 t (by simp)
    | cons p L ih =>
      intro A h1 h2 h3
      refine ih _ (fun q hq => h1 q (by simp [hq])) (by simpa using h2) fun t ht => ?_
      rw [Array.getElem?_setIfInBounds]
      by_cases hp : p.1 = t
      · have := h1 p (by simp)
        have hb : p.1 < A.size := by rw [h2]; exact (Array.getElem?_eq_some_iff.1 this).1
        subst hp
        simp [hb, this]
      · rw [if_neg hp]
        exact h3 t fun q hq => by
          rcases List.mem_cons.1 hq with rfl | hq
          · exact hp
          · exact ht q hq
  refine main L T0 hL h.size.symm fun t ht => h.old t fun k hk he => ?_
  have := List.all_eq_true.1 hall k (List.mem_range.2 hk)
  rw [he] at this
  have hm : t ∈ L.map Prod.fst := by simpa using this
  obtain ⟨p, hp, rfl⟩ := List.mem_map.1 hm
  exact ht p hp rfl
end

end Go.Proofs.Ytgejpbgpgklimaa
