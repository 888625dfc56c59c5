/- A region that draws its order and whose last operations wait for all ahead of them (a store, an append, an assignment): the first ones by XLin's facts, whatever their order; the last ones as a list, walked as anywhere. -/
import Derived.Test.YtgejpbgpgklimaaLin
import Derived.Deep.Cut
namespace Go.Proofs.Ytgejpbgpgklimaa
open Go Go.RowKit

section
variable {P : Program} {ops : Array Oper} {Q : Exit → Act → World → Prop}

theorem wpAny_inv2 {J : (Nat → Prop) → Act → World → Prop} (hwf : Earlier .any 0 ops.toList = true)
    (hdone : ∀ (b : Nat → Prop) a w, (∀ k, k < ops.size → b k) → J b a w → Q .normal a w)
    (hs : ∀ (k : Nat) (o : Oper), ops[k]? = some o → ∀ (b : Nat → Prop) a w, ¬ b k → (∀ e ∈ o.after, Region.binds .any e = true → b e.on) → J b a w → wpOp P ops Q k (fun a' w' => J (fun j => j = k ∨ b j) a' w') a w) :
    ∀ (fuel : Nat) (listed : Array Bool) (a : Act) (w : World), listed.size = ops.size → listed.toList.count false ≤ fuel → J (fun k => listed.getD k false = true) a w → wpAny P .any ops Q fuel listed a w := by
  intro fuel
  induction fuel with
  | zero =>
    intro listed a w hsz hc hJ
    have hall : ∀ k, k < ops.size → listed[k]? = some true := fun k hk => by
      have := count_zero (Nat.le_zero.1 hc) k (by simpa [hsz] using hk)
      simpa using this
    refine ⟨?_, hdone _ a w (fun k hk => by simp [Array.getD_eq_getD_getElem?, hall k hk]) hJ⟩
    rw [List.eq_nil_iff_forall_not_mem]
    intro j hj
    obtain ⟨h1, o, ho, -⟩ := mem_ready.1 hj
    have hj' : j < ops.size := (Array.getElem?_eq_some_iff.1 ho).1
    rw [Array.getD_eq_getD_getElem?, hall j hj'] at h1
    simp at h1
  | succ fuel ih =>
    intro listed a w hsz hc hJ
    refine ⟨fun h0 => ?_, fun i hi => ?_⟩
    · have hall : ∀ n k, k < n → k < ops.size → listed.getD k false = true := by
        intro n
        induction n with
        | zero => intro k hk; omega
        | succ n ihn =>
          intro k hk hks
          rcases Nat.lt_or_ge k n with h | h
          · exact ihn k h hks
          · cases hv : listed.getD k false with
            | true => rfl
            | false =>
              exfalso
              have hr : k ∈ Region.ready .any ops listed := by
                have hko : ops[k]? = some ops[k] := Array.getElem?_eq_getElem hks
                refine mem_ready.2 ⟨?_, ops[k], hko, fun e he hb => ?_⟩
                · have hkl : k < listed.size := by omega
                  simpa [Array.getD_eq_getD_getElem?, hkl] using hv
                · have hlt := Earlier.get ops.toList 0 k ops[k] hwf (by simp) e he hb
                  exact ihn e.on (by omega) (by omega)
              rw [h0] at hr
              cases hr
      exact hdone _ a w (fun k hk => hall (k + 1) k (by omega) hk) hJ
    · obtain ⟨h1, o, ho, hd⟩ := mem_ready.1 hi
      have hio : i < ops.size := (Array.getElem?_eq_some_iff.1 ho).1
      have hil : listed[i]? = some false := by
        have hkl : i < listed.size := by omega
        rw [Array.getElem?_eq_getElem hkl]
        simpa [Array.getD_eq_getD_getElem?, hkl] using h1
      refine wpOp_mono (fun a' w' hJ' => ih _ _ _ (by simpa using hsz) ?_ ?_) (hs i o ho (fun k => listed.getD k false = true) a w (by simp [Array.getD_eq_getD_getElem?, hil]) hd hJ)
      · have := count_set_false (l := listed.toList) (i := i) (by simpa using hil)
        rw [Array.toList_setIfInBounds]
        omega
      · have eb : (fun k => (listed.setIfInBounds i true).getD k false = true) = fun j => j = i ∨ listed.getD j false = true := by
          funext k
          by_cases hki : k = i
          · subst hki
            have hkl : k < listed.size := by omega
            simp [Array.getD_eq_getD_getElem?, hkl]
          · rw [getD_set_ne false (fun h => hki h.symm)]
            simp [hki]
        rw [eb]
        exact hJ'

/-- What an operation waits for, directly or not. -/
theorem before_up {bb : Nat → Prop} (hcl : ∀ k, bb k → ∀ o, ops[k]? = some o → ∀ e ∈ o.after, Region.binds .any e = true → bb e.on) :
    ∀ (k : Nat) (o : Oper), ops[k]? = some o → (∀ e ∈ o.after, Region.binds .any e = true → bb e.on) → ∀ j, ((Region.before ops).getD k 0).testBit j = true → bb j := by
  have inner : ∀ (acc : Array Nat) (l : List Edge) (s j : Nat), (l.foldl (fun s e => if Region.binds .any e then s ||| 2 ^ e.on ||| acc.getD e.on 0 else s) s).testBit j = true →
      s.testBit j = true ∨ ∃ e ∈ l, Region.binds .any e = true ∧ (e.on = j ∨ (acc.getD e.on 0).testBit j = true) := by
    intro acc l
    induction l with
    | nil => intro s j h; exact Or.inl h
    | cons e l ih =>
      intro s j h
      rw [List.foldl_cons] at h
      rcases ih _ j h with h1 | ⟨e', he', h2⟩
      · split at h1
        · rename_i hb
          rw [Nat.testBit_or, Nat.testBit_or, Bool.or_eq_true, Bool.or_eq_true] at h1
          rcases h1 with (h1 | h1) | h1
          · exact Or.inl h1
          · rw [Nat.testBit_two_pow] at h1
            exact Or.inr ⟨e, by simp, hb, Or.inl (of_decide_eq_true h1)⟩
          · exact Or.inr ⟨e, by simp, hb, Or.inr h1⟩
        · exact Or.inl h1
      · exact Or.inr ⟨e', by simp [he'], h2⟩
  have outer : ∀ (l : List Oper) (acc : Array Nat), (∀ i o, l[i]? = some o → ops[acc.size + i]? = some o) → (∀ k o, k < acc.size → ops[k]? = some o → (∀ e ∈ o.after, Region.binds .any e = true → bb e.on) → ∀ j, (acc.getD k 0).testBit j = true → bb j) →
      ∀ k o, ops[k]? = some o → k < acc.size + l.length → (∀ e ∈ o.after, Region.binds .any e = true → bb e.on) → ∀ j, ((l.foldl (fun acc o => acc.push (o.after.foldl (fun s e => if Region.binds .any e then s ||| 2 ^ e.on ||| acc.getD e.on 0 else s) 0)) acc).getD k 0).testBit j = true → bb j := by
    intro l
    induction l with
    | nil => intro acc _ hacc k o ho hk hd j h; exact hacc k o (by simpa using hk) ho hd j h
    | cons o' l ih =>
      intro acc hl hacc k o ho hk hd j h
      rw [List.foldl_cons] at h
      refine ih _ (fun i o hi => ?_) (fun k' o1 hk' ho1 hd1 j' hj' => ?_) k o ho (by simp at hk ⊢; omega) hd j h
      · have := hl (i + 1) o (by simpa using hi)
        simp only [Array.size_push]
        rwa [show acc.size + 1 + i = acc.size + (i + 1) by omega]
      · rcases Nat.lt_or_ge k' acc.size with h1 | h1
        · refine hacc k' o1 h1 ho1 hd1 j' ?_
          rwa [Array.getD_eq_getD_getElem?, Array.getElem?_push_lt h1, ← Array.getElem?_eq_getElem h1, ← Array.getD_eq_getD_getElem?] at hj'
        · obtain rfl : k' = acc.size := by simp at hk'; omega
          have h0 : ops[acc.size]? = some o' := by simpa using hl 0 o' rfl
          rw [ho1] at h0
          obtain rfl : o1 = o' := by simpa using h0
          rw [Array.getD_eq_getD_getElem?, Array.getElem?_push_size, Option.getD_some, ← Array.foldl_toList] at hj'
          rcases inner acc o1.after.toList 0 j' hj' with h2 | ⟨e, he, hb, h2⟩
          · simp at h2
          · have hbe := hd1 e (by simpa using he) hb
            rcases h2 with rfl | h2
            · exact hbe
            · rcases Nat.lt_or_ge e.on acc.size with h3 | h3
              · have hoe : ops[e.on]? = some (ops[e.on]'(by have := (Array.getElem?_eq_some_iff.1 ho1).1; omega)) := Array.getElem?_eq_getElem _
                exact hacc e.on _ h3 hoe (fun e' he' hb' => hcl e.on hbe _ hoe e' he' hb') j' h2
              · rw [Array.getD_eq_getD_getElem?, Array.getElem?_eq_none h3] at h2
                simp at h2
  intro k o ho hd j h
  have hk : k < ops.size := (Array.getElem?_eq_some_iff.1 ho).1
  unfold Region.before at h
  rw [← Array.foldl_toList] at h
  exact outer ops.toList #[] (fun i o hi => by simpa using hi) (fun k' o1 hk' => by simp at hk') k o ho (by simpa using hk) hd j h

/-- From number h on each operation waits for all ahead of it. -/
def lateAll (ops : Array Oper) (h : Nat) : Bool := (List.range ops.size).all fun k => decide (k < h) || (List.range k).all fun j => ((Region.before ops).getD k 0).testBit j

/-- One step of the linear law. -/
theorem LinJ.step {T0 : Array Value} {W0 : World} {F : Nat → Value → World → Prop} (hF : ∀ k v w w', Keep w w' → F k v w → F k v w') (hone : dstsOnce ops = true)
    (hin : ((List.range ops.size).all fun k => match dstOf ops k with | some d => decide (d < T0.size) | none => true) = true)
    {k : Nat} {o : Oper} {bb : Nat → Prop} {a : Act} {w : World} (ho : ops[k]? = some o) (hn : ¬ bb k) (hd : ∀ e ∈ o.after, Region.binds .any e = true → bb e.on) (hJ : LinJ T0 W0 ops F bb a w) (hS : LinStep P T0 W0 ops F k o) :
    if Region.wanted o (yielded ops a.tmps) = true then Oper.wp P o a w (fun a' w' => LinJ T0 W0 ops F (fun j => j = k ∨ bb j) a' w') Q else LinJ T0 W0 ops F (fun j => j = k ∨ bb j) (a.put o.dst undef) w := by
  obtain ⟨T, ds⟩ := a
  obtain rfl : ds = [] := hJ.defers
  have hks : k < ops.size := (Array.getElem?_eq_some_iff.1 ho).1
  refine hS Q bb T w hn hJ hd _ fun v w2 hk2 hf => ?_
  have hdst : dstOf ops k = o.dst := by unfold dstOf; rw [ho]; rfl
  have hbd : ∀ d, o.dst = some d → d < T.size := fun d hd' => by
    have h1 := List.all_eq_true.1 hin k (List.mem_range.2 hks)
    rw [hdst, hd'] at h1
    have h2 : d < T0.size := of_decide_eq_true h1
    have h3 : T.size = T0.size := hJ.size
    rw [h3]; exact h2
  have hput : ∀ t : Nat, o.dst ≠ some t → (Act.put ⟨T, []⟩ o.dst v).tmps[t]? = T[t]? := fun t ht => by
    unfold Act.put
    cases hdd : o.dst with
    | none => rfl
    | some d =>
      have : d ≠ t := fun h => ht (by rw [hdd, h])
      simp [this]
  have hsame : ∀ d, o.dst = some d → (Act.put ⟨T, []⟩ o.dst v).tmps[d]? = some v := fun d hdd => by
    have := hbd d hdd
    unfold Act.put
    rw [hdd]
    simp [this]
  refine ⟨?_, ?_, ?_, ?_, hJ.keep.trans hk2, ?_⟩
  · unfold Act.put; split <;> rfl
  · rw [← hJ.size]; unfold Act.put; split <;> simp
  · intro t ht
    rw [hput t (fun h => ht k (Or.inl rfl) (by rw [hdst]; exact h))]
    exact hJ.old t fun i hi => ht i (Or.inr hi)
  · rintro i (rfl | hi) o' ho' e he hb
    · rw [ho] at ho'
      obtain rfl : o = o' := by simpa using ho'
      exact Or.inr (hd e he hb)
    · exact Or.inr (hJ.closed i hi o' ho' e he hb)
  · rintro i d (rfl | hi) hid
    · rw [hdst] at hid
      exact ⟨v, hsame d hid, hf⟩
    · obtain ⟨u, hu, hfu⟩ := hJ.fact i d hi hid
      refine ⟨u, ?_, hF _ _ _ _ hk2 hfu⟩
      rw [hput d (fun h => ?_)]
      · exact hu
      · have : i = k := dstsOnce_eq hone hid (by rw [hdst]; exact h)
        subst this
        exact hn hi

theorem LinSteps.get {T0 : Array Value} {W0 : World} {F : Nat → Value → World → Prop} : ∀ (l : List Oper) (k i : Nat) (o : Oper), LinSteps P T0 W0 ops F k l → l[i]? = some o → LinStep P T0 W0 ops F (k + i) o
  | [], _, _, _, _, h => by simp at h
  | o' :: l, k, 0, o, hs, h => by
    simp at h; subst h; exact hs.1
  | o' :: l, k, i + 1, o, hs, h => by
    have := LinSteps.get l (k + 1) i o hs.2 (by simpa using h)
    rwa [show k + (i + 1) = k + 1 + i by omega]

def TailJ (P : Program) (T0 : Array Value) (W0 : World) (ops : Array Oper) (F : Nat → Value → World → Prop) (h : Nat) (Q : Exit → Act → World → Prop) (bb : Nat → Prop) (a : Act) (w : World) : Prop :=
  (∀ k, bb k → ∀ o, ops[k]? = some o → ∀ e ∈ o.after, Region.binds .any e = true → bb e.on) ∧
  (((∀ k, h ≤ k → ¬ bb k) ∧ LinJ T0 W0 ops F bb a w) ∨ ∃ m, h < m ∧ m ≤ ops.size ∧ (∀ k, bb k ↔ k < m) ∧ wpList P ops Q (ops.toList.drop m) a w)

theorem wpOp_of_list {k : Nat} {o : Oper} {a : Act} {w : World} (ho : ops[k]? = some o) (h : wpList P ops Q (ops.toList.drop k) a w) : wpOp P ops Q k (wpList P ops Q (ops.toList.drop (k + 1))) a w := by
  have hk : k < ops.size := (Array.getElem?_eq_some_iff.1 ho).1
  have e : ops.toList.drop k = o :: ops.toList.drop (k + 1) := by
    rw [List.drop_eq_getElem_cons (by simpa using hk)]
    congr 1
    have := (Array.getElem?_eq_some_iff.1 ho).2
    simpa using this
  rw [e] at h
  unfold wpList at h
  unfold wpOp
  rw [ho]
  exact h

/-- The whole region: the operations below h in whatever order, then the others in the text's. -/
theorem region_tail {id h : Nat} {T0 : Array Value} {W0 w : World} (F : Nat → Value → World → Prop) (hF : ∀ k v w w', Keep w w' → F k v w → F k v w') (hm : P.follows .mixedOrders = true) (hwf : Earlier .any 0 ops.toList = true) (hone : dstsOnce ops = true)
    (hin : ((List.range ops.size).all fun k => match dstOf ops k with | some d => decide (d < T0.size) | none => true) = true) (hla : lateAll ops h = true) (hhB : decide (h < ops.size) = true) (hw : Keep W0 w)
    (htail : ∀ T w, LinJ T0 W0 ops F (fun k => k < h) ⟨T, []⟩ w → wpList P ops Q (ops.toList.drop h) ⟨T, []⟩ w) (hs : LinSteps P T0 W0 ops F 0 (ops.toList.take h)) :
    (Code.region id ops true).wp P Q ⟨T0, []⟩ w := by
  have hh : h < ops.size := of_decide_eq_true hhB
  refine wp_region_any hm ?_
  change wpAny _ _ _ _ _ _ _ (World.drew _)
  refine wpAny_inv2 (J := TailJ P T0 W0 ops F h Q) hwf ?_ ?_ _ _ _ _ (by simp) (by simp) ?_
  · rintro b a w' hb ⟨_, ⟨h1, _⟩ | ⟨m, h1, h2, h3, h4⟩⟩
    · exact absurd (hb h hh) (h1 h (Nat.le_refl _))
    · have hm' : m = ops.size := by
        rcases Nat.lt_or_ge m ops.size with hlt | hge
        · have := (h3 m).1 (hb m hlt); omega
        · omega
      subst hm'
      rw [List.drop_eq_nil_of_le (by simp)] at h4
      exact h4
  · rintro k o ho b a w' hn hd ⟨hcl, hJ⟩
    have hks : k < ops.size := (Array.getElem?_eq_some_iff.1 ho).1
    have hcl' : ∀ i, (i = k ∨ b i) → ∀ o', ops[i]? = some o' → ∀ e ∈ o'.after, Region.binds .any e = true → (e.on = k ∨ b e.on) := by
      rintro i (rfl | hi) o' ho' e he hb
      · rw [ho] at ho'
        obtain rfl : o = o' := by simpa using ho'
        exact Or.inr (hd e he hb)
      · exact Or.inr (hcl i hi o' ho' e he hb)
    have hcov : h ≤ k → ∀ j, j < k → b j := fun hk j hj => by
      have h1 := List.all_eq_true.1 hla k (List.mem_range.2 hks)
      rw [Bool.or_eq_true] at h1
      rcases h1 with h1 | h1
      · have := of_decide_eq_true h1; omega
      · exact before_up hcl k o ho hd j (List.all_eq_true.1 h1 j (List.mem_range.2 hj))
    rcases hJ with ⟨h1, hL⟩ | ⟨m, h1, h2, h3, h4⟩
    · rcases Nat.lt_or_ge k h with hk | hk
      · have hS : LinStep P T0 W0 ops F k o := by
          have := LinSteps.get _ 0 k o hs (by rw [List.getElem?_take]; simp [hk]; simpa using ho)
          rwa [Nat.zero_add] at this
        have := LinJ.step (P := P) (Q := Q) hF hone hin ho hn hd hL hS
        unfold wpOp
        rw [ho]
        dsimp only
        have up : ∀ a' w', LinJ T0 W0 ops F (fun j => j = k ∨ b j) a' w' → TailJ P T0 W0 ops F h Q (fun j => j = k ∨ b j) a' w' := fun a' w' hl => ⟨hcl', Or.inl ⟨fun i hi hb => by
          rcases hb with rfl | hb
          · omega
          · exact h1 i hi hb, hl⟩⟩
        split at this
        · rename_i hwn
          rw [if_pos hwn]
          exact Or.inl (Oper.wp_mono up this)
        · rename_i hwn
          rw [if_neg hwn]
          exact up _ _ this
      · have hkh : k = h := by
          rcases Nat.lt_or_ge h k with hlt | hge
          · exact absurd (hcov hk h hlt) (h1 h (Nat.le_refl _))
          · omega
        subst hkh
        have hbe : b = fun j => j < k := by
          funext j
          apply propext
          constructor
          · intro hb
            rcases Nat.lt_or_ge j k with hlt | hge
            · exact hlt
            · exact absurd hb (h1 j hge)
          · exact hcov (Nat.le_refl _) j
        subst hbe
        obtain ⟨T, ds⟩ := a
        obtain rfl : ds = [] := hL.defers
        refine wpOp_mono (fun a' w' hl => ?_) (wpOp_of_list ho (htail T w' hL))
        exact ⟨hcl', Or.inr ⟨k + 1, by omega, by omega, fun j => by constructor <;> intro hx <;> omega, hl⟩⟩
    · have hkm : k = m := by
        have hkg : m ≤ k := by
          rcases Nat.lt_or_ge k m with hlt | hge
          · exact absurd ((h3 k).2 hlt) hn
          · exact hge
        rcases Nat.lt_or_ge m k with hlt | hge
        · have := (h3 m).1 (hcov (by omega) m hlt); omega
        · omega
      subst hkm
      refine wpOp_mono (fun a' w' hl => ?_) (wpOp_of_list ho h4)
      exact ⟨hcl', Or.inr ⟨k + 1, by omega, by omega, fun j => by
        show (j = k ∨ b j) ↔ j < k + 1
        rw [h3 j]; omega, hl⟩⟩
  · have eb : (fun k => (Array.replicate ops.size false).getD k false = true) = fun _ => False := by
      funext k
      rw [Array.getD_eq_getD_getElem?, Array.getElem?_replicate]
      split <;> simp
    rw [eb]
    exact ⟨fun _ hf => hf.elim, Or.inl ⟨fun _ _ hf => hf, ⟨rfl, rfl, fun _ _ => rfl, fun _ hf => hf.elim, hw.drew, fun _ _ hf => hf.elim⟩⟩⟩

/-- The frame ahead of the last operations. -/
theorem LinJ.frameTo {h : Nat} {T0 : Array Value} {W0 : World} {F : Nat → Value → World → Prop} {T : Array Value} {w : World} (hJ : LinJ T0 W0 ops F (fun k => k < h) ⟨T, []⟩ w) (L : List (Nat × Value)) (hL : ∀ p ∈ L, T[p.1]? = some p.2)
    (hall : ((List.range h).all fun k => match dstOf ops k with | some d => (L.map Prod.fst).contains d | none => true) = true) : T = L.foldl (fun A p => A.setIfInBounds p.1 p.2) T0 := by
  have main : ∀ (L : List (Nat × Value)) (A : Array Value), (∀ p ∈ L, T[p.1]? = some p.2) → A.size = T.size → (∀ t : Nat, (∀ p ∈ L, p.1 ≠ t) → T[t]? = A[t]?) → T = L.foldl (fun A p => A.setIfInBounds p.1 p.2) A := by
    intro L
    induction L with
    | nil => intro A _ _ h3; exact Array.ext_getElem? fun t => h3 t (by simp)
    | cons p L ih =>
      intro A h1 h2 h3
      refine ih _ (fun q hq => h1 q (by simp [hq])) (by simpa using h2) fun t ht => ?_
      rw [Array.getElem?_setIfInBounds]
      by_cases hp : p.1 = t
      · have := h1 p (by simp)
        have hb : p.1 < A.size := by rw [h2]; exact (Array.getElem?_eq_some_iff.1 this).1
        subst hp
        simp [hb, this]
      · rw [if_neg hp]
        exact h3 t fun q hq => by
          rcases List.mem_cons.1 hq with rfl | hq
          · exact hp
          · exact ht q hq
  refine main L T0 hL hJ.size.symm fun t ht => hJ.old t fun k hk he => ?_
  have := List.all_eq_true.1 hall k (List.mem_range.2 hk)
  rw [he] at this
  have hm : t ∈ L.map Prod.fst := by simpa using this
  obtain ⟨p, hp, rfl⟩ := List.mem_map.1 hm
  exact ht p hp rfl
end

end Go.Proofs.Ytgejpbgpgklimaa
