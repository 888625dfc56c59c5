/- A reader, its position in a variable: what number and part do with it, block by block. -/
import Derived.Test.YtmgnmkdjphnaoaaFRead
namespace Go.Proofs.Ytmgnmkdjphnaoaa
open Go Go.RowKit

/-- All but block R is as it was. -/
structure KeepX (R : Nat) (w w' : World) : Prop where
  os : w'.os = w.os
  output : w'.output = w.output
  size : w.heap.size ≤ w'.heap.size
  block : ∀ k, k < w.heap.size → k ≠ R → w'.heap[k]? = w.heap[k]?
theorem heap_lt {w : World} {B : Nat} {o : Obj} (h : w.heap[B]? = some o) : B < w.heap.size := by
  rcases Nat.lt_or_ge B w.heap.size with h1 | h1
  · exact h1
  · rw [Array.getElem?_eq_none h1] at h; cases h
theorem KeepX.row {R : Nat} {w w' : World} (h : KeepX R w w') {B : Nat} {o : Obj} (hb : w.heap[B]? = some o) (hne : B ≠ R) : w'.heap[B]? = some o := (h.block B (heap_lt hb) hne).trans hb
theorem keepRow {w w' : World} (h : Keep w w') {B : Nat} {o : Obj} (hb : w.heap[B]? = some o) : w'.heap[B]? = some o := (h.block B (heap_lt hb)).trans hb
theorem Keep.byX {R : Nat} {W w w' : World} (h : Keep W w) (k : KeepX R w w') (hR : W.heap.size ≤ R) : Keep W w' :=
  ⟨k.os.trans h.os, k.output.trans h.output, Nat.le_trans h.size k.size, fun i hi => (k.block i (Nat.lt_of_lt_of_le hi h.size) (by omega)).trans (h.block i hi)⟩
def RdAt (w : World) (R : Nat) (a : Int) (s : ByteArray) : Prop := w.heap[R]? = some (.cells #[.int .i64 a, .string s] 97 (0, 0))
theorem rd_cells {w : World} {R : Nat} {a : Int} {s : ByteArray} (h : RdAt w R a s) : w.cell? ⟨R, 0, none⟩ = some (.int .i64 a) ∧ w.cell? ⟨R, 1, none⟩ = some (.string s) ∧ w.frozen? ⟨R, 0, none⟩ = false := by
  refine ⟨cell_of_row _ _ _ _ _ _ h, cell_of_row _ _ _ _ _ _ h, ?_⟩
  rw [frozen_of_row w R 0 _ _ h]
theorem rd_set {w w' : World} {R : Nat} {a n : Int} {s : ByteArray} (h : RdAt w R a s) (k : Keep (w.setCell ⟨R, 0, none⟩ (.int .i64 n)) w') : RdAt w' R n s ∧ KeepX R w w' := by
  have e := heap_setCell_same w R 0 _ _ (.int .i64 n) h
  refine ⟨keepRow k e, k.os, k.output, ?_, fun i hi hne => ?_⟩
  · have := k.size
    simpa [World.setCell] using this
  · rw [k.block i (by simpa [World.setCell] using hi)]
    exact Below.heap_setCell _ _ _ _ (by simpa using hne)
theorem num_ok (R : Nat) (a k v n : Int) (s : ByteArray) (w : World) (hs : s.size ≤ maxLen) (ha : I64 a) (hk : I64 k) (h : RdAt w R a s) (hn : a + k = n) (hi : I64 n) (HV : Hid (getV s a k = v)) (HE : Hid (getE s a k = 0)) :
    Calls Try.prog 64 #[.pointer (some ⟨R, 0, none⟩), .int .i64 k] w fun e w' => e = .returned (.int .i64 v) ∧ RdAt w' R n s ∧ KeepX R w w' := by
  obtain ⟨c0, c1, f0⟩ := rd_cells h
  refine (number_ok R a k n v s w hs ha hk c0 c1 f0 hn hi HV HE).mono ?_
  rintro e w' ⟨rfl, k⟩
  exact ⟨rfl, rd_set h k⟩
theorem num_no (R : Nat) (a k v n x : Int) (s : ByteArray) (w : World) (hs : s.size ≤ maxLen) (ha : I64 a) (hk : I64 k) (h : RdAt w R a s) (hn : a + k = n) (hi : I64 n) (HV : Hid (getV s a k = v)) (HE : Hid (getE s a k = x)) (hx : x ≠ 0) :
    Calls Try.prog 64 #[.pointer (some ⟨R, 0, none⟩), .int .i64 k] w fun e w' => e = .panicked [{ v := .iface 32 (.int .i64 x), recovered := false }] ∧ KeepX R w w' := by
  obtain ⟨c0, c1, f0⟩ := rd_cells h
  refine (number_no R a k n v x s w hs ha hk c0 c1 f0 hn hi HV HE hx).mono ?_
  rintro e w' ⟨rfl, k⟩
  exact ⟨rfl, (rd_set h k).2⟩
theorem prt_ok (R : Nat) (a k n : Int) (v s : ByteArray) (w : World) (hs : s.size ≤ maxLen) (ha : I64 a) (hk : I64 k) (h : RdAt w R a s) (hn : a + k = n) (hi : I64 n) (HV : Hid (fieldS s a k = v)) (HE : Hid (fieldE s a k = 0)) :
    Calls Try.prog 65 #[.pointer (some ⟨R, 0, none⟩), .int .i64 k] w fun e w' => e = .returned (.string v) ∧ RdAt w' R n s ∧ KeepX R w w' := by
  obtain ⟨c0, c1, f0⟩ := rd_cells h
  refine (part_ok R a k n v s w hs ha hk c0 c1 f0 hn hi HV HE).mono ?_
  rintro e w' ⟨rfl, k⟩
  exact ⟨rfl, rd_set h k⟩
theorem prt_no (R : Nat) (a k n x : Int) (v s : ByteArray) (w : World) (hs : s.size ≤ maxLen) (ha : I64 a) (hk : I64 k) (h : RdAt w R a s) (hn : a + k = n) (hi : I64 n) (HV : Hid (fieldS s a k = v)) (HE : Hid (fieldE s a k = x)) (hx : x ≠ 0) :
    Calls Try.prog 65 #[.pointer (some ⟨R, 0, none⟩), .int .i64 k] w fun e w' => e = .panicked [{ v := .iface 32 (.int .i64 x), recovered := false }] ∧ KeepX R w w' := by
  obtain ⟨c0, c1, f0⟩ := rd_cells h
  refine (part_no R a k n v x s w hs ha hk c0 c1 f0 hn hi HV HE hx).mono ?_
  rintro e w' ⟨rfl, k⟩
  exact ⟨rfl, (rd_set h k).2⟩

/-- A frame in a variable. -/
def FrAt (w : World) (B : Nat) (D S : Int) (T : Bool) (P V : Int) (Q : Bool) (N Y : Int) (X : ByteArray) : Prop := w.heap[B]? = some (.cells #[.int .i64 D, .int .i64 S, .bool T, .int .i64 P, .int .i64 V, .bool Q, .int .i64 N, .int .i64 Y, .string X] 23 (0, 0))
section
variable {w : World} {B : Nat} {D S P V N Y : Int} {T Q : Bool} {X : ByteArray}
theorem fr_cells (h : FrAt w B D S T P V Q N Y X) : w.cell? ⟨B, 0, none⟩ = some (.int .i64 D) ∧ w.cell? ⟨B, 1, none⟩ = some (.int .i64 S) ∧ w.cell? ⟨B, 2, none⟩ = some (.bool T) ∧ w.cell? ⟨B, 3, none⟩ = some (.int .i64 P) ∧ w.cell? ⟨B, 4, none⟩ = some (.int .i64 V) ∧ w.cell? ⟨B, 5, none⟩ = some (.bool Q) ∧ w.cell? ⟨B, 6, none⟩ = some (.int .i64 N) ∧ w.cell? ⟨B, 7, none⟩ = some (.int .i64 Y) ∧ w.cell? ⟨B, 8, none⟩ = some (.string X) := by
  refine ⟨?_, ?_, ?_, ?_, ?_, ?_, ?_, ?_, ?_⟩ <;> exact cell_of_row _ _ _ _ _ _ h
theorem fr_free (h : FrAt w B D S T P V Q N Y X) (j : Nat) : w.frozen? ⟨B, j, none⟩ = false := frozen_of_row w B j _ _ h
theorem fr_tag (h : FrAt w B D S T P V Q N Y X) (P' V' : Int) : FrAt (((w.setCell ⟨B, 2, none⟩ (.bool true)).setCell ⟨B, 3, none⟩ (.int .i64 P')).setCell ⟨B, 4, none⟩ (.int .i64 V')) B D S true P' V' Q N Y X :=
  heap_setCell_same _ _ _ _ _ _ (heap_setCell_same _ _ _ _ _ _ (heap_setCell_same _ _ _ _ _ _ h))
theorem fr_seq (h : FrAt w B D S T P V Q N Y X) (N' : Int) : FrAt ((w.setCell ⟨B, 5, none⟩ (.bool true)).setCell ⟨B, 6, none⟩ (.int .i64 N')) B D S T P V true N' Y X :=
  heap_setCell_same _ _ _ _ _ _ (heap_setCell_same _ _ _ _ _ _ h)
end
theorem info_frame : (Try.prog.info? 23).map (·.size) = some 9 := by kernel_rfl
theorem fr_one (D S : Int) (T : Bool) (P V : Int) (Q : Bool) (N Y : Int) (X : ByteArray) : ∀ v ∈ (#[Value.int .i64 D, .int .i64 S, .bool T, .int .i64 P, .int .i64 V, .bool Q, .int .i64 N, .int .i64 Y, .string X]).toList, v.oneCell' = true := by
  intro v hv
  simp only [List.mem_cons, List.not_mem_nil, or_false] at hv
  rcases hv with rfl | rfl | rfl | rfl | rfl | rfl | rfl | rfl | rfl <;> rfl
theorem fr_data {w : World} {B : Nat} {D S P V N Y : Int} {T Q : Bool} {X : ByteArray} (h : FrAt w B D S T P V Q N Y X) (X' : ByteArray) : FrAt (w.setCell ⟨B, 8, none⟩ (.string X')) B D S T P V Q N Y X' := heap_setCell_same _ _ _ _ _ _ h
theorem fr_kind {w : World} {B : Nat} {D S P V N Y : Int} {T Q : Bool} {X : ByteArray} (h : FrAt w B D S T P V Q N Y X) (Y' : Int) : FrAt (w.setCell ⟨B, 7, none⟩ (.int .i64 Y')) B D S T P V Q N Y' X := heap_setCell_same _ _ _ _ _ _ h
theorem keepX_set (w : World) (B i : Nat) (v : Value) : KeepX B w (w.setCell ⟨B, i, none⟩ v) :=
  ⟨rfl, rfl, by simp [World.setCell], fun k hk hne => Below.heap_setCell _ _ _ _ (by simpa using hne)⟩
theorem KeepX.refl (B : Nat) (w : World) : KeepX B w w := ⟨rfl, rfl, Nat.le_refl _, fun _ _ _ => rfl⟩
theorem KeepX.trans {R : Nat} {a b c : World} (h : KeepX R a b) (k : KeepX R b c) : KeepX R a c :=
  ⟨k.os.trans h.os, k.output.trans h.output, Nat.le_trans h.size k.size, fun i hi hne => (k.block i (Nat.lt_of_lt_of_le hi h.size) hne).trans (h.block i hi hne)⟩

section
variable {w w' : World} {R B : Nat} {D S P V N Y a : Int} {T Q : Bool} {X s : ByteArray}
theorem fr_x (h : FrAt w B D S T P V Q N Y X) (k : KeepX R w w') (hne : B ≠ R) : FrAt w' B D S T P V Q N Y X := k.row h hne
theorem fr_k (h : FrAt w B D S T P V Q N Y X) (k : Keep w w') : FrAt w' B D S T P V Q N Y X := keepRow k h
theorem rd_x (h : RdAt w R a s) (k : KeepX B w w') (hne : R ≠ B) : RdAt w' R a s := k.row h hne
theorem rd_k (h : RdAt w R a s) (k : Keep w w') : RdAt w' R a s := keepRow k h
end
theorem keepX_tag (w : World) (B : Nat) (P V : Int) : KeepX B w (((w.setCell ⟨B, 2, none⟩ (.bool true)).setCell ⟨B, 3, none⟩ (.int .i64 P)).setCell ⟨B, 4, none⟩ (.int .i64 V)) :=
  ((keepX_set w B 2 _).trans (keepX_set _ B 3 _)).trans (keepX_set _ B 4 _)
theorem keepX_seq (w : World) (B : Nat) (N : Int) : KeepX B w ((w.setCell ⟨B, 5, none⟩ (.bool true)).setCell ⟨B, 6, none⟩ (.int .i64 N)) :=
  (keepX_set w B 5 _).trans (keepX_set _ B 6 _)
theorem i64_nat (n : Nat) (h : n ≤ 9223372036854775807) : I64 (n : Int) := by unfold I64; omega

/-! ### What fields reads -/
def rd1 (s : ByteArray) : Option (Bool × Int × Int × Nat × Int) :=
  if getV s 12 2 = 33024 then (if s.size < 18 then none else some (true, getV s 14 2 / 8192, getV s 14 2 % 8192, 18, getV s 16 2)) else some (false, 0, 0, 14, getV s 12 2)
def rd2 (s : ByteArray) (a : Nat) (k : Int) : Option (Bool × Int × Nat × Int) :=
  if k = 61889 then (if s.size < a + 6 then none else some (true, getV s (a + 2 : Nat) 2, a + 6, getV s (a + 4 : Nat) 2)) else some (false, 0, a, k)
def rd3 (s : ByteArray) (a : Nat) (k : Int) : Option (Int × ByteArray) :=
  if k < 1536 then (if s.size < a + k.toNat then none else some (0, s.extract a (a + k.toNat))) else (if s.size < a + 4 then none else some (k, s.extract a (s.size - 4)))
def rdF (s : ByteArray) : Option Frm :=
  if s.size < 14 then none else
  (rd1 s).bind fun x1 => (rd2 s x1.2.2.2.1 x1.2.2.2.2).bind fun x2 => (rd3 s x2.2.2.1 x2.2.2.2).map fun x3 => ⟨getV s 0 6, getV s 6 6, x1.1, x1.2.1, x1.2.2.1, x2.1, x2.2.1, x3.1, x3.2⟩

theorem getE_ok (s : ByteArray) (a k : Int) (h0 : 0 ≤ a) (hk : 1 ≤ k ∧ k ≤ 7) (h : a + k ≤ s.size) : getE s a k = 0 := by
  unfold getE
  rw [if_pos hk]
  exact field_ok _ _ _ h0 (by omega) (by rw [has_iff]; omega)
theorem getE_no (s : ByteArray) (a k : Int) (h0 : 0 ≤ a) (hk : 1 ≤ k ∧ k ≤ 7) (h : (s.size : Int) < a + k) : getE s a k = 5 := by
  unfold getE
  rw [if_pos hk]
  exact field_form _ _ _ h0 (by omega) (by rw [← Bool.not_eq_true, has_iff]; omega)
theorem getV_bd (s : ByteArray) (a k : Int) (h0 : 0 ≤ a) (hk : 1 ≤ k ∧ k ≤ 7) (h : a + k ≤ s.size) : 0 ≤ getV s a k ∧ getV s a k < 256 ^ k.toNat := by
  unfold getV
  rw [if_pos (getE_ok s a k h0 hk h)]
  have := vl_bd (pc s a k)
  rw [show (pc s a k).length = k.toNat by
    unfold pc
    have : ((s.extract a.toNat (a + k).toNat).data.toList).length = (s.extract a.toNat (a + k).toNat).size := rfl
    rw [this, ByteArray.size_extract]
    omega] at this
  exact this
end Go.Proofs.Ytmgnmkdjphnaoaa
