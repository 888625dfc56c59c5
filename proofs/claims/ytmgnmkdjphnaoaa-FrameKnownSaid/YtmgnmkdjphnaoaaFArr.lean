/- An array of twelve frames: one block of 108 cells; a frame is stored into it and read from it whole. -/
import Derived.Test.YtmgnmkdjphnaoaaFMem
import Derived.Deep.MidRow
namespace Go.Proofs.Ytmgnmkdjphnaoaa
open Go Go.RowKit

def frow (f : Frm) : List Value := [.int .i64 f.dst, .int .i64 f.src, .bool f.tag, .int .i64 f.prio, .int .i64 f.vid, .bool f.sq, .int .i64 f.seq, .int .i64 f.ty, .string f.data]
def arrL (g : Nat → Frm) : List Value := (List.range 12).flatMap fun i => frow (g i)
def ArrAt (w : World) (B : Nat) (g : Nat → Frm) : Prop := w.heap[B]? = some (.cells (arrL g).toArray 54 (0, 0))
def upd (g : Nat → Frm) (i : Nat) (f : Frm) (j : Nat) : Frm := if j = i then f else g j
theorem arr_len (g : Nat → Frm) : (arrL g).length = 108 := by kernel_rfl
theorem arr_size (g : Nat → Frm) : (arrL g).toArray.size = 108 := by rw [List.size_toArray, arr_len]
theorem frow_len (f : Frm) : (frow f).length = 9 := rfl
theorem arr_set (g : Nat → Frm) (i : Nat) (f : Frm) (h : i < 12) : (arrL g).take (9 * i) ++ frow f ++ (arrL g).drop (9 * i + 9) = arrL (upd g i f) := by
  have : i = 0 ∨ i = 1 ∨ i = 2 ∨ i = 3 ∨ i = 4 ∨ i = 5 ∨ i = 6 ∨ i = 7 ∨ i = 8 ∨ i = 9 ∨ i = 10 ∨ i = 11 := by omega
  rcases this with rfl | rfl | rfl | rfl | rfl | rfl | rfl | rfl | rfl | rfl | rfl | rfl <;> (show _ = _; kernel_rfl)
theorem arr_part (g : Nat → Frm) (i : Nat) (h : i < 12) : ((arrL g).drop (9 * i)).take 9 = frow (g i) := by
  have : i = 0 ∨ i = 1 ∨ i = 2 ∨ i = 3 ∨ i = 4 ∨ i = 5 ∨ i = 6 ∨ i = 7 ∨ i = 8 ∨ i = 9 ∨ i = 10 ∨ i = 11 := by omega
  rcases this with rfl | rfl | rfl | rfl | rfl | rfl | rfl | rfl | rfl | rfl | rfl | rfl <;> (show _ = _; kernel_rfl)
theorem arr_range {w : World} {B : Nat} {g : Nat → Frm} (h : ArrAt w B g) (i : Nat) (hi : i < 12) : w.rangeAt B (9 * i) (frow (g i)) := by
  have := World.rangeAt_of_block h (9 * i) 9
  have e : ((arrL g).toArray.extract (9 * i) (9 * i + 9)).toList = frow (g i) := by
    rw [← arr_part g i hi]
    simp
  rwa [e] at this
theorem frow_one (f : Frm) : ∀ v ∈ frow f, v.oneCell' = true := by
  intro v hv
  simp only [frow, List.mem_cons, List.not_mem_nil, or_false] at hv
  rcases hv with rfl | rfl | rfl | rfl | rfl | rfl | rfl | rfl | rfl <;> rfl
theorem arr_setRow {w : World} {B : Nat} {g : Nat → Frm} (h : ArrAt w B g) (i : Nat) (f : Frm) : ArrAt (w.setRow B (arrL (upd g i f)).toArray) B (upd g i f) := setRow_heap w B _ _ _ _ h
section
variable {P : Program}
theorem run_storeArr {w : World} {B : Nat} {g : Nat → Frm} (h : ArrAt w B g) (i : Nat) (f : Frm) (hi : i < 12) (ty : TypeId) (hz : (P.info? ty).map (·.size) = some 9) :
    (storeVar ty ⟨B, 9 * i, none⟩ (.agg (frow f).toArray)).run P w = .ok () (w.setRow B (arrL (upd g i f)).toArray) := by
  have hst := run_storeCells_at P B (9 * i) 54 (frow f) 0 (arrL g).toArray w h (by rw [arr_size, frow_len]; omega) (frow_one f)
  have e : (arrL g).toArray.toList.take (9 * i + 0) ++ frow f ++ (arrL g).toArray.toList.drop (9 * i + 0 + (frow f).length) = arrL (upd g i f) := by
    rw [← arr_set g i f hi, frow_len, Nat.add_zero]
  rw [e] at hst
  cases hq : P.info? ty with
  | none => simp [hq] at hz
  | some d =>
    have hd : d.size = 9 := by simpa [hq] using hz
    simp [storeVar, Value.cells, sizeOf, typeInfo, hq, hd, frow_len, hst]
theorem wpList_store_arr {ops : Array Oper} {rest : List Oper} {o : Oper} {a : Act} {w : World} {Q : Exit → Act → World → Prop} (hgd : o.guard = none) (ty : TypeId) (x y : Operand) (ho : o.op = .store ty x y) (B p : Nat) (g : Nat → Frm) (i : Nat) (f : Frm)
    (h : ArrAt w B g) (hi : i < 12) (hp : p = 9 * i) (hx : a.eval x = .pointer (some ⟨B, p, none⟩)) (hy : a.eval y = .agg (frow f).toArray) (hz : (P.info? ty).map (·.size) = some 9)
    (hK : wpList P ops Q rest (a.put o.dst undef) (w.setRow B (arrL (upd g i f)).toArray)) : wpList P ops Q (o :: rest) a w :=
  wpList_plain hgd fun _ k => by
    subst hp
    unfold Oper.wp execOp
    simp only [ho, hx, hy, Instr.storeAt, Instr.sureAddr, Sem.run_bind, Sem.run_pure, Result.andThen_ok, run_storeArr h i f hi ty hz]
    exact k _ _ hK
end
theorem arr_k {w w' : World} {B : Nat} {g : Nat → Frm} (h : ArrAt w B g) (k : Keep w w') : ArrAt w' B g := keepRow k h
theorem range_k {w w' : World} {B o : Nat} {cs : List Value} (h : w.rangeAt B o cs) (k : Keep w w') : w'.rangeAt B o cs := fun j v hv => k.some (h j v hv)
theorem keepRowX {w w' : World} {B : Nat} {o : Obj} (k : w'.heap[B]? = w.heap[B]?) (hb : w.heap[B]? = some o) : w'.heap[B]? = some o := k.trans hb
theorem arr_lt {w : World} {B : Nat} {g : Nat → Frm} (h : ArrAt w B g) : B < w.heap.size := heap_lt h
theorem arr_congr {w : World} {B : Nat} {g g' : Nat → Frm} (h : ArrAt w B g) (e : ∀ i, i < 12 → g i = g' i) : ArrAt w B g' := by
  unfold ArrAt at h ⊢
  rw [h]
  have : arrL g = arrL g' := by
    unfold arrL
    have e2 : ∀ l : List Nat, (∀ i ∈ l, i < 12) → (l.flatMap fun i => frow (g i)) = l.flatMap fun i => frow (g' i) := by
      intro l
      induction l with
      | nil => intro _; rfl
      | cons x l ih => intro hl; rw [List.flatMap_cons, List.flatMap_cons, ih (fun i hi => hl i (List.mem_cons_of_mem _ hi)), e x (hl x List.mem_cons_self)]
    exact e2 _ (fun i hi => by simpa using hi)
  rw [this]
/-- The frame before and behind step k of the first loop. -/
def fill (f z : Frm) (k i : Nat) : Frm := if i < k then f else z
theorem fill_zero (f z : Frm) (i) : fill f z 0 i = z := rfl
theorem fill_step (f z : Frm) (k i) : upd (fill f z k) k f i = fill f z (k + 1) i := by
  unfold upd fill
  by_cases h : i = k
  · subst h; simp
  · by_cases h2 : i < k
    · simp [h, h2, show i < k + 1 by omega]
    · simp [h, h2, show ¬ i < k + 1 by omega]
theorem fill_all (f z : Frm) (i) (h : i < 12) : fill f z 12 i = f := by unfold fill; rw [if_pos h]
end Go.Proofs.Ytmgnmkdjphnaoaa
