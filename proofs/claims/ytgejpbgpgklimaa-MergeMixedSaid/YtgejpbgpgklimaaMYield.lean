/- One round of slices.AppendSeq over an iterator that keeps a variable of its own in block Pb: the piece that has come is appended. -/
import Derived.RangeFuncNested
import Derived.RangeFuncBound
import Derived.RangeFuncCalls
import Derived.RangeFuncLeaves
import Derived.RangeFuncRecord
import Derived.Shelf.Abstract
import Derived.Shelf.RegionOpen
import Derived.WalkKit
import Derived.OwnWalkIn
import Derived.TacticsInMore
import Derived.LoopNIn
import Derived.LoopIn
import Derived.RangeFuncBox
import Derived.Maps.OwnIn
import Derived.Test.YtgejpbgpgklimaaMRowP
namespace Go.Proofs.Ytgejpbgpgklimaa
open Go Go.RowKit Go.Shelf
attribute [local go_sem] Oper.semAt_some

def apAssign : Code := Code.region 2 #[{ dst := some 5, op := Op.alloc 45, type := 0, pos := "iter.go:51", after := #[], guard := none }, { dst := none, op := Op.store 45 (Operand.tmp 5) (Operand.tmp 7), type := 0, pos := "iter.go:51", after := #[{ on := 0, ground := Ground.data }, { on := 0, ground := Ground.phase }], guard := none }] false
def apBody : Code := Code.block 1 (Code.region 3 #[{ dst := some 8, op := Op.load 35 (Operand.tmp 2), type := 35, pos := "iter.go:52", after := #[], guard := none }, { dst := some 9, op := Op.load 45 (Operand.tmp 5), type := 45, pos := "iter.go:52", after := #[], guard := none }, { dst := some 10, op := Op.buildSlice 35 1 #[(0, Operand.tmp 9)], type := 35, pos := "iter.go:52", after := #[{ on := 1, ground := Ground.data }], guard := none }, { dst := some 11, op := Op.call { callee := Callee.builtin Builtin.append, args := #[Operand.tmp 8, Operand.tmp 10], argTypes := #[35, 35] }, type := 35, pos := "iter.go:52", after := #[{ on := 0, ground := Ground.data }, { on := 2, ground := Ground.data }], guard := none }, { dst := none, op := Op.store 35 (Operand.tmp 2) (Operand.tmp 11), type := 0, pos := "iter.go:52", after := #[{ on := 3, ground := Ground.data }, { on := 3, ground := Ground.chain }, { on := 0, ground := Ground.phase }, { on := 1, ground := Ground.phase }, { on := 2, ground := Ground.phase }, { on := 3, ground := Ground.phase }], guard := none }] false)
/-- The loop's record: the temporaries of the call as they stood at the entering; 's' lies in block Bs; sv is the iterator. -/
def apRec (fn : FuncId) (sv : Value) (Bs D : Nat) (st : LoopState) (pend : Option Code) : Loop :=
  { state := st, pending := pend, fn, tmps := #[.slice none 0 0, sv, .pointer (some ⟨Bs, 0, none⟩), undef, .slice none 0 0, undef, sv, undef, undef, undef, undef, undef, undef], params := #[7], assign := apAssign, body := apBody, defers := D }

/-- Between two rounds: the pieces ss have come; no block but those of the call's own has turned. -/
structure ApAt (w0 : World) (fn : FuncId) (sv : Value) (Bs l D Pb : Nat) (ss : List Pc) (W : World) : Prop where
  box : ∃ v, W.heap[Bs]? = some (.cells #[v] 35 (0, 0)) ∧ OwnP W w0.heap.size v ss ∧ v.ownBlock ≠ some Pb
  L : W.heap[l]? = some (.loop (apRec fn sv Bs D .ready none))
  K : W.heap[D]? = some (.deferred (some []))
  keep : Keep w0 W
theorem ApAt.x {w0 : World} {fn : FuncId} {sv : Value} {Bs l D Pb : Nat} {ss : List Pc} {W W' : World} (h : ApAt w0 fn sv Bs l D Pb ss W) (k : KeepX Pb W W') (h0 : w0.heap.size ≤ Pb) (h1 : Bs ≠ Pb) (h2 : l ≠ Pb) (h3 : D ≠ Pb) : ApAt w0 fn sv Bs l D Pb ss W' := by
  obtain ⟨v, hv, ho, hne⟩ := h.box
  exact ⟨⟨v, k.row hv h1, ho.x k hne, hne⟩, k.row h.L h2, k.row h.K h3, h.keep.byX k h0⟩

theorem keepX_obj (W : World) (l : Nat) (o : Obj) : KeepX l W (W.putObj l o) :=
  ⟨rfl, rfl, by simp, fun k _ hne => World.putObj_heap_other hne⟩
theorem own_ne {W : World} {base : Nat} {v : Value} {l : List Pc} (h : OwnP W base v l) {j : Nat} {o : Obj} (hj : W.heap[j]? = some o) (hno : ∀ cur, o ≠ .cells cur 45 (0, 0)) : v.ownBlock ≠ some j := by
  rcases h.2 with ⟨rfl, _⟩ | ⟨g, cap, cur, rfl, _, hg, _⟩
  · simp [Value.ownBlock]
  · intro e
    have : g = j := by simpa [Value.ownBlock] using e
    subst this
    rw [hg] at hj
    cases hj
    exact hno cur rfl
theorem box_cell {W : World} {B : Nat} {v : Value} {t : TypeId} (h : W.heap[B]? = some (.cells #[v] t (0, 0))) : W.cell? ⟨B, 0, none⟩ = some v ∧ W.frozen? ⟨B, 0, none⟩ = false := by
  constructor <;> simp [World.cell?, World.frozen?, h]

theorem four_new (w : World) (a b c d : Value) (t : TypeId) : ∀ j u, [a, b, c, d][j]? = some u → (w.alloc (.cells #[a, b, c, d] t)).cell? ((⟨w.heap.size, 0, none⟩ : Addr).add j) = some u := by
  intro j u hj
  have ea : (⟨w.heap.size, 0, none⟩ : Addr).add j = ⟨w.heap.size, j, none⟩ := by unfold Addr.add; split <;> simp_all
  rw [ea, cell_of_row _ _ _ _ _ _ (heap_alloc_new w _), ← hj]
  simp
theorem fourth {W w : World} {o : Obj} {c : Obj} {v : Value} {j : Nat} (h : W.heap[j]? = some o) (hl : j < W.heap.size) (hne : v.ownBlock ≠ some j) (hg : (W.alloc c).grownBy w v.ownBlock) : w.heap[j]? = some o :=
  (hg.block j (by simp; omega) (fun e => hne e.symm)).trans ((Below.heap_alloc _ _ j hl).trans h)
set_option maxRecDepth 100000 in
set_option maxHeartbeats 2000000 in
theorem apYield (F : Fence) (m : Nat) (w0 : World) (fn : FuncId) (hfn : F.fn fn) (sv : Value) (Bs l D Pb : Nat) (hBl : Bs ≠ l) (hDl : D ≠ l) (hDB : D ≠ Bs) (h0B : w0.heap.size ≤ Bs) (h0l : w0.heap.size ≤ l) (hP : Bs ≠ Pb ∧ l ≠ Pb ∧ D ≠ Pb)
    (ss : List Pc) (x : Pc) (W : World) (hPb : Pb < W.heap.size) (h : ApAt w0 fn sv Bs l D Pb ss W) (hlen : ss.length < 1000) :
    YieldAt F m Try.prog l #[.agg #[.bool x.st, .int .i64 x.num, .int .i64 x.cnt, .string x.data]] W fun e W' => e = .returned (.bool true) ∧ ApAt w0 fn sv Bs l D Pb (ss ++ [x]) W' ∧ W'.heap[Pb]? = W.heap[Pb]? := by
  obtain ⟨i0, hi, hz0, hz1, hz2⟩ := info_parts infoPc
  obtain ⟨v, hv, hrow, hvP⟩ := h.box
  refine ⟨fn, #[.slice none 0 0, sv, .pointer (some ⟨Bs, 0, none⟩), undef, .slice none 0 0, undef, sv, .agg #[.bool x.st, .int .i64 x.num, .int .i64 x.cnt, .string x.data], undef, undef, undef, undef, undef], apAssign, apBody, by simpa [apRec] using run_yield (P := Try.prog) (args := #[.agg #[.bool x.st, .int .i64 x.num, .int .i64 x.cnt, .string x.data]]) h.L rfl, roundIn_of_wpIn hfn ?_⟩
  unfold apAssign
  gi_wp2
  obtain ⟨W1, hW1⟩ : ∃ W1, W.alloc (.cells #[.bool x.st, .int .i64 x.num, .int .i64 x.cnt, .string x.data] 45) = W1 := ⟨_, rfl⟩
  have k1 : Keep W W1 := by rw [← hW1]; exact (Keep.refl W).alloc _
  have hx1 : MgT 45 W1 W.heap.size x.st x.num x.cnt x.data := by rw [← hW1]; exact mg_new W _ _ _ _ _
  rw [hW1]
  clear hW1
  have hL1 := keepRow k1 h.L
  obtain ⟨A, hA⟩ : ∃ A, W.heap.size = A := ⟨_, rfl⟩
  rw [hA] at hx1 hPb ⊢
  have hAl : A ≠ l := by have := heap_lt h.L; omega
  obtain ⟨W2, hW2⟩ : ∃ W2, W1.putObj l (.loop { apRec fn sv Bs D .ready none with state := .busy }) = W2 := ⟨_, rfl⟩
  have hbr := run_beginRound (P := Try.prog) hL1 rfl
  rw [hW2] at hbr
  have x2 : KeepX l W1 W2 := by rw [← hW2]; exact keepX_obj _ _ _
  have hL2 : W2.heap[l]? = some (.loop { apRec fn sv Bs D .ready none with state := .busy }) := by rw [← hW2]; exact World.putObj_heap_same (heap_lt hL1)
  have hv2 := x2.row (keepRow k1 hv) hBl
  have hK2 := x2.row (keepRow k1 h.K) hDl
  have hx2 := mg_x hx1 x2 hAl
  have hrow2 := (hrow.keep k1).x x2 (own_ne (hrow.keep k1) hL1 (fun cur e => by cases e))
  have kk2 : Keep w0 W2 := (h.keep.trans k1).byX x2 h0l
  have hbase := kk2.size
  clear hW2
  obtain ⟨hc2, hf2⟩ := box_cell hv2
  obtain ⟨p0, p1, p2, p3⟩ := mg_cells hx2
  refine ⟨W2, hbr, ?_⟩
  unfold apBody
  have hsz2 : W.heap.size ≤ W2.heap.size := Nat.le_trans k1.size x2.size
  rw [hA] at hsz2
  have hPb2 : W2.heap[Pb]? = W.heap[Pb]? := (x2.block Pb (by have := k1.size; omega) hP.2.1.symm).trans (k1.block Pb (by omega))
  have HH := Lib.hid (And.intro hrow2 (And.intro hK2 (And.intro hL2 (And.intro kk2 (And.intro hPb2 (And.intro hv2 (And.intro hvP (And.intro hbase (And.intro hPb hsz2)))))))))
  have hBs2 := heap_lt hv2
  clear hv hrow h hL1 hx1 k1 x2 hbr hx2 hL2 hK2 hrow2 kk2 hPb2 hv2 hvP hbase
  gi_wp2_with (gi_at_builtin; refine wpListIn_append_own_at _ rfl _ _ 35 rfl w0.heap.size 45 i0 (.agg #[.bool false, .int .i64 0, .int .i64 0, .string ⟨#[]⟩]) 4 40 Try.underlying35 hi hz0 hz1 hz2 rfl (by decide) v _ _ rfl (HH.out.1.alloc _) ⟨W2.heap.size, 0, none⟩ 1 1 [.bool x.st, .int .i64 x.num, .int .i64 x.cnt, .string x.data] rfl rfl (four_new _ _ _ _ _ _) (cellsP_cell [x]) (by unfold maxLen; omega) (by omega) (by have := HH.out.2.2.2.2.2.2.2.1; simp; omega) ?_; intro v' w4 hown4 hg4 hnil4 hat4; have h4 := fourth HH.out.2.2.2.2.2.1 hBs2 (own_ne HH.out.1 HH.out.2.2.2.2.2.1 (fun cur e => by cases e)) hg4; obtain ⟨hc4, hf4⟩ := box_cell h4; obtain ⟨g', cap', rfl⟩ := ownsRow_succ hown4)
  have hg5 : (W2.alloc (.cells #[.bool x.st, .int .i64 x.num, .int .i64 x.cnt, .string x.data] 45)).grownBy w4 v.ownBlock := hg4
  obtain ⟨hrow2, hK2, hL2, kk2, hPb2, hv2, hvP, hbase, hPb3, hsz2'⟩ := HH.out
  have hL4 := fourth hL2 (heap_lt hL2) (own_ne hrow2 hL2 (fun cur e => by cases e)) hg5
  have hK4 := fourth hK2 (heap_lt hK2) (own_ne hrow2 hK2 (fun cur e => by cases e)) hg5
  have hPb4 : w4.heap[Pb]? = W2.heap[Pb]? := (hg5.block Pb (by simp; omega) (fun e => hvP e.symm)).trans (Below.heap_alloc _ _ Pb (by omega))
  have kk4 : Keep w0 w4 := (kk2.alloc _).byRow hg5 (fun k e => (hrow2.lt k e).1)
  have ho4 : OwnP w4 w0.heap.size (.slice (some ⟨g', 0, none⟩) (ss.length + 1) cap') (ss ++ [x]) := by
    unfold OwnP
    rw [List.length_append, cellsP_append]
    exact hown4
  have hg4P : (Value.slice (some ⟨g', 0, none⟩) (ss.length + 1) cap').ownBlock ≠ some Pb := by
    rcases hat4 with e | e
    · rw [e]; exact hvP
    · rw [e]
      intro e2
      simp at e2
      omega
  obtain ⟨W5, hW5⟩ : ∃ W5, w4.setCell ⟨Bs, 0, none⟩ (.slice (some ⟨g', 0, none⟩) (ss.length + 1) cap') = W5 := ⟨_, rfl⟩
  have x5 : KeepX Bs w4 W5 := by rw [← hW5]; exact keepX_set _ _ _ _
  have hv5 : W5.heap[Bs]? = some (.cells #[.slice (some ⟨g', 0, none⟩) (ss.length + 1) cap'] 35 (0, 0)) := by rw [← hW5]; exact heap_setCell_same _ _ _ _ _ _ h4
  have hL5 := x5.row hL4 hBl.symm
  have hK5 := x5.row hK4 hDB
  have ho5 := ho4.x x5 (own_ne ho4 h4 (fun cur e => by cases e))
  have kk5 : Keep w0 W5 := kk4.byX x5 h0B
  have hPb5 : W5.heap[Pb]? = w4.heap[Pb]? := x5.block Pb (by have := kk4.size; have := hg5.size; simp at this; omega) hP.1.symm
  rw [hW5]
  clear hW5
  have x6 := keepX_obj W5 l (.loop { { apRec fn sv Bs D .ready none with state := .busy } with state := if (none : Option Code).isNone then .ready else .done, pending := none })
  have hend := run_endRound (P := Try.prog) none hL5
  refine ⟨_, _, hend, rfl, ⟨⟨_, x6.row hv5 hBl, ho5.x x6 (own_ne ho5 hL5 (fun cur e => by cases e)), hg4P⟩, World.putObj_heap_same (heap_lt hL5), x6.row hK5 hDl, kk5.byX x6 h0l⟩, ?_⟩
  rw [x6.block Pb (by have := x5.size; have := hg5.size; simp at this; omega) hP.2.1.symm, hPb5, hPb4, hPb2]
  exact Array.getElem?_eq_getElem _
end Go.Proofs.Ytgejpbgpgklimaa
