/- What frame.Decode returns. -/
import Derived.Test.YtmgnmkdjphnaoaaFDec
import Derived.Test.YtmgnmkdjphnaoaaFCatch
namespace Go.Proofs.Ytmgnmkdjphnaoaa
open Go Go.RowKit

def zeroF : Frm := ⟨0, 0, false, 0, 0, false, 0, 0, ⟨#[]⟩⟩
/-- What Decode returns. -/
def decV (o : Option Frm) : Frm := o.getD zeroF
def decE (o : Option Frm) : Int := if o.isSome then 0 else 5
def DecR (f : Frm) (c : Int) (w : World) (e : Ending) (w' : World) : Prop :=
  e = .returned (.tuple #[.agg #[.int .i64 f.dst, .int .i64 f.src, .bool f.tag, .int .i64 f.prio, .int .i64 f.vid, .bool f.sq, .int .i64 f.seq, .int .i64 f.ty, .string f.data], .int .i64 c]) ∧ Keep w w'

theorem results_two {P : Program} {fn : Func} {p q : Tmp} {ty tq : TypeId} (h : fn.results = #[.cell p ty, .cell q tq]) (tmps : Array Value) (w : World) (g c : Nat) (t : TypeId) (cs : Array Value) (fr : Nat × Nat) (d : TypeDesc) (v : Value)
    (hp : tmps.getD p undef = .pointer (some ⟨g, 0, none⟩)) (hq : tmps.getD q undef = .pointer (some ⟨c, 0, none⟩)) (hg : w.heap[g]? = some (.cells cs t fr))
    (hu : P.underlying ty = some d) (hd : (match d with | .struct _ | .array _ _ => true | _ => false) = true) (hi : (P.info? ty).map (·.size) = some cs.size)
    (hc : (loadVar tq ⟨c, 0, none⟩).run P w = .ok v w) :
    (results fn tmps).run P w = .ok (.tuple #[.agg cs, v]) w := by
  have hp' : tmps[p]?.getD undef = .pointer (some ⟨g, 0, none⟩) := by simpa using hp
  have hq' : tmps[q]?.getD undef = .pointer (some ⟨c, 0, none⟩) := by simpa using hq
  simp [results, h, hp', hq', asAddr, run_loadVar_row w g t ty cs fr d hg hu hd hi, hc]
theorem load_errno {w : World} {c : Nat} {x : Int} (h : w.cell? ⟨c, 0, none⟩ = some (.int .i64 x)) : (loadVar 32 ⟨c, 0, none⟩).run Try.prog w = .ok (.int .i64 x) w := by
  simp [go_sem, loadVar, h]
def ErAt (w : World) (E : Nat) (x : Int) : Prop := w.heap[E]? = some (.cells #[.int .i64 x] 32 (0, 0))
theorem er_cells {w : World} {E : Nat} {x : Int} (h : ErAt w E x) : w.cell? ⟨E, 0, none⟩ = some (.int .i64 x) ∧ w.frozen? ⟨E, 0, none⟩ = false := ⟨cell_of_row _ _ _ _ _ _ h, frozen_of_row w E 0 _ _ h⟩
theorem er_k {w w' : World} {E : Nat} {x : Int} (h : ErAt w E x) (k : Keep w w') : ErAt w' E x := keepRow k h
theorem er_row {w : World} {E C : Nat} {x : Int} (h : ErAt w E x) (hne : E ≠ C) (cs : Array Value) : ErAt (w.setRow C cs) E x := (setRow_other w C E cs hne).trans h
theorem er_set {w : World} {E : Nat} {x : Int} (h : ErAt w E x) (y : Int) : ErAt (w.setCell ⟨E, 0, none⟩ (.int .i64 y)) E y := heap_setCell_same _ _ _ _ _ _ h
theorem row_set {w : World} {E C : Nat} {o : Obj} (h : w.heap[C]? = some o) (hne : C ≠ E) (v : Value) : (w.setCell ⟨E, 0, none⟩ v).heap[C]? = some o := (Below.heap_setCell _ _ _ _ (by simpa using hne)).trans h
set_option maxRecDepth 100000 in
set_option maxHeartbeats 4000000 in
theorem decode_is (s : ByteArray) (o : Option Frm) (w : World) (hs : s.size ≤ maxLen) (H : Hid (decP s = o)) : Calls Try.prog 19 #[.string s] w (DecR (decV o) (decE o) w) := by
  have hmf : ∀ (fn : Fn) (first cap : Array Value) (w : World), (Instr.makeFunc fn first cap).run Try.prog w = .ok (.func fn first cap) w := fun _ _ _ _ => rfl
  go_enter_defers Try.func19, Try.ntmps19
  go_upto_region 2 with fail
  have hc : FrAt ((w.alloc (.cells #[.int .i64 0, .int .i64 0, .bool false, .int .i64 0, .int .i64 0, .bool false, .int .i64 0, .int .i64 0, .string ⟨#[]⟩] 23)).alloc (.cells #[.int .i64 0] 32)) w.heap.size 0 0 false 0 0 false 0 0 ⟨#[]⟩ := keepRow ((Keep.refl _).alloc _) (heap_alloc_new w _)
  have he : ErAt ((w.alloc (.cells #[.int .i64 0, .int .i64 0, .bool false, .int .i64 0, .int .i64 0, .bool false, .int .i64 0, .int .i64 0, .string ⟨#[]⟩] 23)).alloc (.cells #[.int .i64 0] 32)) (w.heap.size + 1) 0 := by
    have := heap_alloc_new (w.alloc (.cells #[.int .i64 0, .int .i64 0, .bool false, .int .i64 0, .int .i64 0, .bool false, .int .i64 0, .int .i64 0, .string ⟨#[]⟩] 23)) (.cells #[.int .i64 0] 32)
    rw [show (w.alloc (.cells #[.int .i64 0, .int .i64 0, .bool false, .int .i64 0, .int .i64 0, .bool false, .int .i64 0, .int .i64 0, .string ⟨#[]⟩] 23)).heap.size = w.heap.size + 1 by simp] at this
    exact this
  have K := Lib.hid (((Keep.refl w).alloc (.cells #[.int .i64 0, .int .i64 0, .bool false, .int .i64 0, .int .i64 0, .bool false, .int .i64 0, .int .i64 0, .string ⟨#[]⟩] 23)).alloc (.cells #[.int .i64 0] 32))
  have HNE : Hid (w.heap.size ≠ w.heap.size + 1 ∧ w.heap.size ≤ w.heap.size + 1 ∧ w.heap.size ≤ w.heap.size) := Lib.hid (by omega)
  generalize ((w.alloc (.cells #[.int .i64 0, .int .i64 0, .bool false, .int .i64 0, .int .i64 0, .bool false, .int .i64 0, .int .i64 0, .string ⟨#[]⟩] 23)).alloc (.cells #[.int .i64 0] 32)) = w0 at *
  generalize w.heap.size + 1 = E at *
  obtain ⟨C, hC⟩ : ∃ C, w.heap.size = C := ⟨_, rfl⟩
  rw [hC] at hc HNE ⊢
  replace HNE : Hid (C ≠ E ∧ w.heap.size ≤ E ∧ w.heap.size ≤ C) := Lib.hid (by rw [hC]; exact HNE.out)
  clear hC
  cases o with
  | none =>
    go_wp2_with (go_at_call 38; ((with_reducible refine (decoded_is s none _ hs H).mono ?_); rintro e' w1 ⟨⟨t, v, rfl⟩, k1⟩))
    replace hc := fr_k hc k1
    replace he := er_k he k1
    replace K := Lib.hid (K.out.trans k1)
    refine leaves_cons (f := 37) (args := #[.pointer (some ⟨C, 0, none⟩), .pointer (some ⟨E, 0, none⟩)]) (by simp) (by simp [go_sem]) ?_
    refine (catch_panics C E 0 t v [] w1 hc (er_cells he).1 (er_cells he).2 HNE.out.1).mono ?_
    rintro e u' w'' ⟨rfl, rfl, rfl⟩
    have hg := setRow_heap w1 C _ zeroRow _ _ hc
    have hg2 := row_set hg HNE.out.1 (.int .i64 5)
    have he2 := er_set (er_row he HNE.out.1.symm zeroRow) 5
    refine ⟨_, results_two Try.results19 _ _ C E _ zeroRow _ _ _ rfl rfl hg2 Try.underlying23 rfl info_frame (load_errno (er_cells he2).1), rfl, (K.out.setRow HNE.out.2.2 _).setCell HNE.out.2.1 _⟩
  | some f =>
    have hq : ∀ w', Calls Try.prog 38 #[.string s] w' (Reads (some f) w') := fun w' => decoded_is s (some f) w' hs H
    obtain ⟨D, S, T, P, V, Q, N, Y, X⟩ := f
    have HQ := Lib.hid hq
    clear hq H
    go_wp2_with (first | (go_at_call 38; ((with_reducible refine (HQ.out _).mono ?_); rintro e' w1 ⟨rfl, k1⟩; have hc := fr_k hc k1; have he := er_k he k1; obtain ⟨e0, e1⟩ := er_cells (er_row he HNE.out.1.symm #[.int .i64 D, .int .i64 S, .bool T, .int .i64 P, .int .i64 V, .bool Q, .int .i64 N, .int .i64 Y, .string X]))) | (refine wpList_store_row rfl 23 _ _ rfl C rfl 23 _ #[.int .i64 D, .int .i64 S, .bool T, .int .i64 P, .int .i64 V, .bool Q, .int .i64 N, .int .i64 Y, .string X] rfl hc rfl (fr_one _ _ _ _ _ _ _ _ _) info_frame ?_))
    refine leaves_cons (f := 37) (args := #[.pointer (some ⟨C, 0, none⟩), .pointer (some ⟨E, 0, none⟩)]) (by simp) (by simp [go_sem]) ?_
    refine (catch_idle C E _).mono ?_
    rintro e u' w'' ⟨rfl, rfl, rfl⟩
    have hg := setRow_heap w1 C _ #[.int .i64 D, .int .i64 S, .bool T, .int .i64 P, .int .i64 V, .bool Q, .int .i64 N, .int .i64 Y, .string X] _ _ hc
    have hg2 := row_set hg HNE.out.1 (.int .i64 0)
    have he2 := er_set (er_row he HNE.out.1.symm #[.int .i64 D, .int .i64 S, .bool T, .int .i64 P, .int .i64 V, .bool Q, .int .i64 N, .int .i64 Y, .string X]) 0
    refine ⟨_, results_two Try.results19 _ _ C E _ #[.int .i64 D, .int .i64 S, .bool T, .int .i64 P, .int .i64 V, .bool Q, .int .i64 N, .int .i64 Y, .string X] _ _ _ rfl rfl hg2 Try.underlying23 rfl info_frame (load_errno (er_cells he2).1), rfl, ((K.out.trans k1).setRow HNE.out.2.2 _).setCell HNE.out.2.1 _⟩
end Go.Proofs.Ytmgnmkdjphnaoaa
