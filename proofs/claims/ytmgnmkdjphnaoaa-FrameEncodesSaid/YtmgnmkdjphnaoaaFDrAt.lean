/- A draft in a variable; some valid frame. Nothing is said of the program's code here. -/
import Derived.Test.YtmgnmkdjphnaoaaFMem
namespace Go.Proofs.Ytmgnmkdjphnaoaa
open Go Go.RowKit

def DrAt (w : World) (A : Nat) (a b l g k q : Int) (x : ByteArray) : Prop := w.heap[A]? = some (.cells #[.int .u16 a, .int .u16 b, .int .u16 l, .int .u8 g, .int .u8 k, .int .u16 q, .string x] 26 (0, 0))
theorem dr_cells {w : World} {A : Nat} {a b l g k q : Int} {x : ByteArray} (h : DrAt w A a b l g k q x) : w.cell? ⟨A, 0, none⟩ = some (.int .u16 a) ∧ w.cell? ⟨A, 1, none⟩ = some (.int .u16 b) ∧ w.cell? ⟨A, 2, none⟩ = some (.int .u16 l) ∧ w.cell? ⟨A, 3, none⟩ = some (.int .u8 g) ∧ w.cell? ⟨A, 4, none⟩ = some (.int .u8 k) ∧ w.cell? ⟨A, 5, none⟩ = some (.int .u16 q) ∧ w.cell? ⟨A, 6, none⟩ = some (.string x) := by
  refine ⟨?_, ?_, ?_, ?_, ?_, ?_, ?_⟩ <;> exact cell_of_row _ _ _ _ _ _ h
theorem dr_x {w w' : World} {A R : Nat} {a b l g k q : Int} {x : ByteArray} (h : DrAt w A a b l g k q x) (kx : KeepX R w w') (hne : A ≠ R) : DrAt w' A a b l g k q x := kx.row h hne
/-- A call returns some valid frame. -/
def SomeF (w : World) (e : Ending) (w' : World) : Prop := ∃ f : Frm, f.ok = true ∧ e = .returned (.agg #[.int .i64 f.dst, .int .i64 f.src, .bool f.tag, .int .i64 f.prio, .int .i64 f.vid, .bool f.sq, .int .i64 f.seq, .int .i64 f.ty, .string f.data]) ∧ Keep w w'
end Go.Proofs.Ytmgnmkdjphnaoaa
