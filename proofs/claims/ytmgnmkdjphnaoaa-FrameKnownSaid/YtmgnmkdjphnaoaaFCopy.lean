/- A region that copies a frame into several new variables, its order drawn: loads, allocations, stores. -/
import Derived.Test.YtmgnmkdjphnaoaaFMem
import Derived.Test.YtmgnmkdjphnaoaaLin
namespace Go.Proofs.Ytmgnmkdjphnaoaa
open Go Go.RowKit

def ZR : Array Value := #[.int .i64 0, .int .i64 0, .bool false, .int .i64 0, .int .i64 0, .bool false, .int .i64 0, .int .i64 0, .string ⟨#[]⟩]
theorem wp_alloc_frame {o : Oper} {a : Act} {w : World} {K : Act → World → Prop} {Q : Exit → Act → World → Prop} (ho : o.op = .alloc 23) (h : K (a.put o.dst (.pointer (some ⟨w.heap.size, 0, none⟩))) (w.alloc (.cells ZR 23))) : o.wp Try.prog a w K Q := by
  unfold ZR at h
  unfold Oper.wp execOp
  simp only [ho]
  go_simp
  exact h

section
variable {ops : Array Oper} {Q : Exit → Act → World → Prop}
/-- What holds of the copies: own i is the block of number i. -/
structure Cop (W0 : World) (n : Nat) (p : Nat → Nat) (R : Array Value) (own : Nat → Nat) (bb : Nat → Prop) (T : Array Value) (w : World) : Prop where
  ptr : ∀ i, i < n → bb (n + i) → T[p i]? = some (.pointer (some ⟨own i, 0, none⟩))
  new : ∀ i, i < n → bb (n + i) → W0.heap.size ≤ own i ∧ own i < w.heap.size
  zero : ∀ i, i < n → bb (n + i) → ¬ bb (2 * n + i) → w.heap[own i]? = some (.cells ZR 23 (0, 0))
  row : ∀ i, i < n → bb (2 * n + i) → bb (n + i) ∧ w.heap[own i]? = some (.cells R 23 (0, 0))
  apart : ∀ i j, i < n → j < n → i ≠ j → bb (n + i) → bb (n + j) → own i ≠ own j

def CopyStep (T0 : Array Value) (W0 : World) (ops : Array Oper) (F : Nat → Value → Prop) (G : (Nat → Prop) → Array Value → World → Prop) (k : Nat) (o : Oper) : Prop :=
  ∀ (Q : Exit → Act → World → Prop) (bb : Nat → Prop) (T : Array Value) (w : World), ¬ bb k → LinJ T0 W0 ops (fun i v _ => F i v) bb ⟨T, []⟩ w → G bb T w → (∀ e ∈ o.after, Region.binds .any e = true → bb e.on) → (∀ d, o.dst = some d → d < T.size) →
    ∀ K : Act → World → Prop, (∀ v w', Keep W0 w' → F k v → G (fun j => j = k ∨ bb j) (Act.put ⟨T, []⟩ o.dst v).tmps w' → K (Act.put ⟨T, []⟩ o.dst v) w') → if Region.wanted o (yielded ops T) = true then Oper.wp Try.prog o ⟨T, []⟩ w K Q else K (Act.put ⟨T, []⟩ o.dst undef) w
def CopySteps (T0 : Array Value) (W0 : World) (ops : Array Oper) (F : Nat → Value → Prop) (G : (Nat → Prop) → Array Value → World → Prop) : Nat → List Oper → Prop
  | _, [] => True
  | k, o :: l => CopyStep T0 W0 ops F G k o ∧ CopySteps T0 W0 ops F G (k + 1) l

theorem region_copy {id : Nat} {T0 : Array Value} {W0 w : World} (F : Nat → Value → Prop) (G : (Nat → Prop) → Array Value → World → Prop) (hm : Try.prog.follows .mixedOrders = true) (hwf : Earlier .any 0 ops.toList = true) (hone : dstsOnce ops = true)
    (hin : ((List.range ops.size).all fun k => match dstOf ops k with | some d => decide (d < T0.size) | none => true) = true) (hw : Keep W0 w) (hG : G (fun _ => False) T0 w.drew)
    (hdone : ∀ bb T w, LinJ T0 W0 ops (fun i v _ => F i v) (fun k => k < ops.size) ⟨T, []⟩ w → (∀ k, k < ops.size → bb k) → G bb T w → Q .normal ⟨T, []⟩ w) (hs : CopySteps T0 W0 ops F G 0 ops.toList) :
    (Code.region id ops true).wp Try.prog Q ⟨T0, []⟩ w := by
  refine region_inv (J := fun bb a w => LinJ T0 W0 ops (fun i v _ => F i v) bb a w ∧ G bb a.tmps w) hm hwf ?_ ?_ ?_
  · rintro bb ⟨T, ds⟩ w' hb ⟨hJ, hg⟩
    obtain rfl : ds = [] := hJ.defers
    refine hdone bb T w' ⟨rfl, hJ.size, fun t ht => hJ.old t fun k _ hk => ?_, fun k hk o ho e he hbi => ?_, hJ.keep, fun k d hk hd => hJ.fact k d (hb k hk) hd⟩ hb hg
    · rcases Nat.lt_or_ge k ops.size with h | h
      · exact ht k h hk
      · unfold dstOf at hk; rw [Array.getElem?_eq_none h] at hk; cases hk
    · have := Earlier.get ops.toList 0 k o hwf (by simpa using ho) e he hbi
      show e.on < ops.size
      have hk' : k < ops.size := hk
      omega
  · exact ⟨⟨rfl, rfl, fun _ _ => rfl, fun _ h => h.elim, hw.drew, fun _ _ h => h.elim⟩, hG⟩
  · have key : ∀ (l : List Oper) (k : Nat), (∀ i o, l[i]? = some o → ops[k + i]? = some o) → CopySteps T0 W0 ops F G k l → StepsFrom Try.prog .any ops Q (fun bb a w => LinJ T0 W0 ops (fun i v _ => F i v) bb a w ∧ G bb a.tmps w) k l := by
      intro l
      induction l with
      | nil => intro k _ _; exact trivial
      | cons o l ih =>
        intro k hl hS
        have ho : ops[k]? = some o := by simpa using hl 0 o rfl
        have hks : k < ops.size := (Array.getElem?_eq_some_iff.1 ho).1
        refine ⟨?_, ih (k + 1) (fun i o' h => by have := hl (i + 1) o' (by simpa using h); rwa [show k + (i + 1) = k + 1 + i by omega] at this) hS.2⟩
        rintro bb ⟨T, ds⟩ w' hn hd ⟨hJ, hg⟩ K hK
        obtain rfl : ds = [] := hJ.defers
        have hdst : dstOf ops k = o.dst := by unfold dstOf; rw [ho]; rfl
        have hbd : ∀ d, o.dst = some d → d < T.size := fun d hd' => by
          have h1 := List.all_eq_true.1 hin k (List.mem_range.2 hks)
          rw [hdst, hd'] at h1
          have h2 : d < T0.size := of_decide_eq_true h1
          have h3 : T.size = T0.size := hJ.size
          rw [h3]; exact h2
        refine iteWanted (hS.1 Q bb T w' hn hJ hg hd hbd K fun v w2 hk2 hf hg2 => hK _ _ ⟨?_, hg2⟩)
        have hput : ∀ t : Nat, o.dst ≠ some t → (Act.put ⟨T, []⟩ o.dst v).tmps[t]? = T[t]? := fun t ht => by
          unfold Act.put
          cases hdd : o.dst with
          | none => rfl
          | some d =>
            have : d ≠ t := fun h => ht (by rw [hdd, h])
            simp [this]
        have hsame : ∀ d, o.dst = some d → (Act.put ⟨T, []⟩ o.dst v).tmps[d]? = some v := fun d hdd => by
          have := hbd d hdd
          unfold Act.put
          rw [hdd]
          simp [this]
        refine ⟨?_, ?_, ?_, ?_, hk2, ?_⟩
        · unfold Act.put; split <;> rfl
        · rw [← hJ.size]; unfold Act.put; split <;> simp
        · intro t ht
          rw [hput t (fun h => ht k (Or.inl rfl) (by rw [hdst]; exact h))]
          exact hJ.old t fun i hi => ht i (Or.inr hi)
        · rintro i (rfl | hi) o' ho' e he hb
          · rw [ho] at ho'
            obtain rfl : o = o' := by simpa using ho'
            exact Or.inr (hd e he hb)
          · exact Or.inr (hJ.closed i hi o' ho' e he hb)
        · rintro i d (rfl | hi) hid
          · rw [hdst] at hid
            exact ⟨v, hsame d hid, hf⟩
          · obtain ⟨u, hu, hfu⟩ := hJ.fact i d hi hid
            refine ⟨u, ?_, hfu⟩
            rw [hput d (fun h => ?_)]
            · exact hu
            · have : i = k := dstsOnce_eq hone hid (by rw [hdst]; exact h)
              subst this
              exact hn hi
    exact key ops.toList 0 (fun i o h => by simpa using h) hs

variable {T0 : Array Value} {W0 : World} {n : Nat} {l p : Nat → Nat} {R : Array Value} {F0 : Nat} {tF : Nat}
/-- What a load's and an allocation's slot hold. -/
def CopF (n : Nat) (R : Array Value) (k : Nat) (v : Value) : Prop := (k < n → v = .agg R) ∧ (n ≤ k → k < 2 * n → ∃ B, v = .pointer (some ⟨B, 0, none⟩))
def CopG (W0 : World) (n : Nat) (p : Nat → Nat) (R : Array Value) (bb : Nat → Prop) (T : Array Value) (w : World) : Prop := ∃ own, Cop W0 n p R own bb T w

theorem put_other (T : Array Value) (d : Option Nat) (v : Value) (t : Nat) (h : d ≠ some t) : (Act.put ⟨T, []⟩ d v).tmps[t]? = T[t]? := by
  unfold Act.put
  cases d with
  | none => rfl
  | some d =>
    have : d ≠ t := fun e => h (by rw [e])
    simp [this]
theorem put_same (T : Array Value) (d : Nat) (v : Value) (h : d < T.size) : (Act.put ⟨T, []⟩ (some d) v).tmps[d]? = some v := by
  unfold Act.put
  simp [h]
theorem copy_load (k : Nat) (o : Oper) (d : Nat) (hk : k < n) (hg : o.guard = none) (ho : o.op = .load 23 (.tmp tF)) (hd : o.dst = some d) (hp : ∀ i, i < n → p i ≠ d) (hold : noDst ops tF = true) (hF : T0[tF]? = some (.pointer (some ⟨F0, 0, none⟩))) (hR : W0.heap[F0]? = some (.cells R 23 (0, 0))) (h9 : R.size = 9) :
    CopyStep T0 W0 ops (CopF n R) (CopG W0 n p R) k o := by
  intro Q bb T w hn hJ hG hdd hbd K hK
  rw [if_pos (by unfold Region.wanted; rw [hg])]
  have hs : T[tF]? = some (.pointer (some ⟨F0, 0, none⟩)) := (hJ.oldSlot tF hold).trans hF
  refine wp_load_row 23 (.tmp tF) ho F0 (by simp [Act.eval, hs]) 23 R (0, 0) _ (keepRow hJ.keep hR) Try.underlying23 rfl (by rw [h9]; exact info_frame) ?_
  obtain ⟨own, c⟩ := hG
  have ne : ∀ i, k ≠ n + i := fun i => by omega
  have ne2 : ∀ i, k ≠ 2 * n + i := fun i => by omega
  refine hK _ _ hJ.keep ⟨fun _ => rfl, fun h => by omega⟩ ⟨own, ⟨?_, ?_, ?_, ?_, ?_⟩⟩
  · intro i hi hb
    rw [put_other _ _ _ _ (by rw [hd]; intro e; exact hp i hi (Option.some.inj e).symm)]
    exact c.ptr i hi (hb.resolve_left (fun e => ne i e.symm))
  · intro i hi hb
    exact c.new i hi (hb.resolve_left (fun e => ne i e.symm))
  · intro i hi hb hnb
    exact c.zero i hi (hb.resolve_left (fun e => ne i e.symm)) (fun h => hnb (Or.inr h))
  · intro i hi hb
    obtain ⟨h1, h2⟩ := c.row i hi (hb.resolve_left (fun e => ne2 i e.symm))
    exact ⟨Or.inr h1, h2⟩
  · intro i j hi hj hij hb hb'
    exact c.apart i j hi hj hij (hb.resolve_left (fun e => ne i e.symm)) (hb'.resolve_left (fun e => ne j e.symm))
theorem copy_alloc (k i0 : Nat) (o : Oper) (hi0 : i0 < n) (hk : k = n + i0) (hg : o.guard = none) (ho : o.op = .alloc 23) (hd : o.dst = some (p i0)) (hp : ∀ i, i < n → i ≠ i0 → p i ≠ p i0) :
    CopyStep T0 W0 ops (CopF n R) (CopG W0 n p R) k o := by
  intro Q bb T w hn hJ hG hdd hbd K hK
  rw [if_pos (by unfold Region.wanted; rw [hg])]
  refine wp_alloc_frame ho ?_
  obtain ⟨own, c⟩ := hG
  have hz := (w.alloc (.cells ZR 23))
  have hsz : (w.alloc (.cells ZR 23)).heap.size = w.heap.size + 1 := by simp
  refine hK _ _ (hJ.keep.alloc _) ⟨fun h => by omega, fun _ _ => ⟨_, rfl⟩⟩ ⟨fun i => if i = i0 then w.heap.size else own i, ⟨?_, ?_, ?_, ?_, ?_⟩⟩
  · intro i hi hb
    by_cases e : i = i0
    · subst e
      rw [hd, put_same _ _ _ (hbd _ hd)]
      simp
    · rw [put_other _ _ _ _ (by rw [hd]; intro h; exact hp i hi e (Option.some.inj h).symm)]
      simp only [e, if_false]
      exact c.ptr i hi (hb.resolve_left (fun h => e (by omega)))
  · intro i hi hb
    rw [hsz]
    by_cases e : i = i0
    · simp only [e, if_true]
      have := hJ.keep.size
      omega
    · simp only [e, if_false]
      have := c.new i hi (hb.resolve_left (fun h => e (by omega)))
      omega
  · intro i hi hb hnb
    by_cases e : i = i0
    · simp only [e, if_true]
      exact heap_alloc_new _ _
    · simp only [e, if_false]
      have hb' := hb.resolve_left (fun h => e (by omega))
      rw [Below.heap_alloc _ _ _ (c.new i hi hb').2]
      exact c.zero i hi hb' (fun h => hnb (Or.inr h))
  · intro i hi hb
    have hb2 := hb.resolve_left (fun h => by omega)
    obtain ⟨h1, h2⟩ := c.row i hi hb2
    refine ⟨Or.inr h1, ?_⟩
    by_cases e : i = i0
    · subst e
      rw [hk] at hn
      exact absurd h1 hn
    · simp only [e, if_false]
      rw [Below.heap_alloc _ _ _ (c.new i hi h1).2]
      exact h2
  · intro i j hi hj hij hb hb'
    by_cases e : i = i0
    · by_cases e' : j = i0
      · omega
      · simp only [e, if_true, e', if_false]
        have := (c.new j hj (hb'.resolve_left (fun h => e' (by omega)))).2
        omega
    · by_cases e' : j = i0
      · simp only [e, if_false, e', if_true]
        have := (c.new i hi (hb.resolve_left (fun h => e (by omega)))).2
        omega
      · simp only [e, if_false, e']
        exact c.apart i j hi hj hij (hb.resolve_left (fun h => e (by omega))) (hb'.resolve_left (fun h => e' (by omega)))
theorem copy_store (k i0 ts : Nat) (o : Oper) (hi0 : i0 < n) (hk : k = 2 * n + i0) (hg : o.guard = none) (ho : o.op = .store 23 (.tmp (p i0)) (.tmp ts)) (hd : o.dst = none) (ha : waitsFor o (n + i0) = true) (hl : waitsFor o i0 = true) (hls : dstOf ops i0 = some ts) (h9 : R.size = 9) (hone : ∀ v ∈ R.toList, v.oneCell' = true) :
    CopyStep T0 W0 ops (CopF n R) (CopG W0 n p R) k o := by
  intro Q bb T w hn hJ hG hdd hbd K hK
  rw [if_pos (by unfold Region.wanted; rw [hg])]
  obtain ⟨own, c⟩ := hG
  have hb0 : bb (n + i0) := waitsFor_up ha hdd
  obtain ⟨v, hv, hfv⟩ := hJ.dep hdd i0 ts hl hls
  obtain rfl : v = .agg R := hfv.1 hi0
  have hpt := c.ptr i0 hi0 hb0
  have hzr := c.zero i0 hi0 hb0 (by rw [hk] at hn; exact hn)
  have hnew := c.new i0 hi0 hb0
  refine wp_store_row 23 (.tmp (p i0)) (.tmp ts) ho (own i0) (by simp [Act.eval, hpt]) 23 ZR R (by simp [Act.eval, hv]) hzr (by rw [h9]; rfl) hone (by rw [h9]; exact info_frame) ?_
  have hsz : (w.setRow (own i0) R).heap.size = w.heap.size := by simp
  have ne : ∀ i, i < n → k ≠ n + i := fun i hi => by omega
  refine hK _ _ (hJ.keep.setRow hnew.1 _) ⟨fun h => by omega, fun h h' => by omega⟩ ⟨own, ⟨?_, ?_, ?_, ?_, ?_⟩⟩
  · intro i hi hb
    rw [put_other _ _ _ _ (by rw [hd]; simp)]
    exact c.ptr i hi (hb.resolve_left (fun e => ne i hi e.symm))
  · intro i hi hb
    rw [hsz]
    exact c.new i hi (hb.resolve_left (fun e => ne i hi e.symm))
  · intro i hi hb hnb
    have hb' := hb.resolve_left (fun e => ne i hi e.symm)
    have hi' : i ≠ i0 := fun e => hnb (Or.inl (by omega))
    rw [setRow_other w (own i0) (own i) R (c.apart i i0 hi hi0 hi' hb' hb0)]
    exact c.zero i hi hb' (fun h => hnb (Or.inr h))
  · intro i hi hb
    by_cases e : i = i0
    · subst e
      exact ⟨Or.inr hb0, setRow_heap w (own i) ZR R _ _ hzr⟩
    · obtain ⟨h1, h2⟩ := c.row i hi (hb.resolve_left (fun h => e (by omega)))
      refine ⟨Or.inr h1, ?_⟩
      rw [setRow_other w (own i0) (own i) R (c.apart i i0 hi hi0 e h1 hb0)]
      exact h2
  · intro i j hi hj hij hb hb'
    exact c.apart i j hi hj hij (hb.resolve_left (fun e => ne i hi e.symm)) (hb'.resolve_left (fun e => ne j hj e.symm))
end
end Go.Proofs.Ytmgnmkdjphnaoaa
