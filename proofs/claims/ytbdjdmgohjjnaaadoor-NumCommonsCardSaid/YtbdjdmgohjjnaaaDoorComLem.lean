/- What NumCommons' walk leans on: appends to a row of one's own, of any number of elements, none too; the two states at which its walk is cut. -/
import Derived.Test.YtbdjdmgohjjnaaaDoorListAt
import Derived.Test.YtbdjdmgohjjnaaaDoorLawSums
import Derived.Deep.RegionHeld3
import Derived.Deep.AppendLies
import Derived.Deep.RegionLaw
import Derived.Deep.DeepCutAuto
import Derived.Deep.CutRange
import Derived.Deep.DeepMust
import Derived.Laws.AppendOwn
namespace Go.Proofs.YtbdjdmgohjjnaaaDoor
open Go Go.RowKit

theorem refGcd_is (a b n : Int) (h : gcdS a b = n) (w : World) : Calls Tryd.prog 28 #[.int .i64 a, .int .i64 b] w (Num n w) := h ▸ refGcd_any a b w

def HeldK (W w : World) : Prop := Keep W w
theorem HeldK.next {W w w' : World} (h : HeldK W w) (k : Grown w w') : HeldK W w' := Keep.trans h (keepOf k)
theorem HeldK.drew {W w : World} (h : HeldK W w) : HeldK W w.drew := Keep.drew h
theorem HeldK.alloc {W w : World} (h : HeldK W w) (o : Obj) : HeldK W (w.alloc o) := Keep.alloc h o
theorem HeldK.tab {W w : World} (h : HeldK W w) (t : Tab W) : Tab w := Keep.tab h t

theorem newsOne {w : World} {N e : Nat} {x : Int} (h : w.heap[N]? = some (.cells #[Value.int .i64 x] e)) : ∀ (j : Nat) u, ([x].map (Value.int .i64))[j]? = some u → w.cell? ((⟨N, 0, none⟩ : Addr).add j) = some u := by
  intro j u hj
  match j, hj with
  | 0, hj =>
    simp at hj
    subst hj
    show w.cell? ⟨N, 0, none⟩ = _
    unfold World.cell?
    rw [h]
    rfl
  | _ + 1, hj => simp at hj
theorem heapNew4 (w : World) (o : Obj) : (w.alloc o).heap[w.heap.size]? = some o := (MapKept.heap_alloc w o).1
theorem heapNew5 (w : World) (o o' : Obj) : ((w.alloc o).alloc o').heap[w.heap.size]? = some o := by rw [Below.heap_alloc _ _ _ (by simp)]; exact heapNew4 w o
theorem heapNew6 (w : World) (o o' : Obj) : ((w.alloc o').alloc o).heap[w.heap.size + 1]? = some o := by
  have := heapNew4 (w.alloc o') o
  rwa [World.size_alloc] at this
theorem heapNew1 (w : World) (o : Obj) : (w.alloc o).drew.heap[w.heap.size]? = some o := heapNew4 w o
theorem heapNew2 (w : World) (o o' : Obj) : ((w.alloc o).alloc o').drew.heap[w.heap.size]? = some o := heapNew5 w o o'
theorem heapNew3 (w : World) (o o' : Obj) : ((w.alloc o').alloc o).drew.heap[w.heap.size + 1]? = some o := heapNew6 w o o'
theorem ownsAt {w : World} {base e g n cap : Nat} {xs : List Value} (h : w.ownsRow base e 1 (.slice (some ⟨g, 0, none⟩) n cap) n xs) : base ≤ g := by
  obtain ⟨_, h | ⟨g', _, _, h, hb, _⟩⟩ := h
  · cases h.1
  · cases h; exact hb
theorem newsO2 {w w1 : World} {o1 o2 : Obj} (h : ((w.alloc o1).alloc o2).drew.grownBy w1 (some w.heap.size)) : w1.heap[w.heap.size + 1]? = some o2 := by
  have e := h.block (w.heap.size + 1) (by show w.heap.size + 1 < ((w.alloc o1).alloc o2).heap.size; rw [World.size_alloc, World.size_alloc]; omega) (by show some (w.heap.size + 1) ≠ some w.heap.size; intro k; injection k with k; omega)
  rw [e]; exact heapNew3 _ _ _
theorem newsO3 {w w1 : World} {o1 o2 : Obj} (h : ((w.alloc o2).alloc o1).drew.grownBy w1 (some (w.heap.size + 1))) : w1.heap[w.heap.size]? = some o2 := by
  have e := h.block w.heap.size (by show w.heap.size < ((w.alloc o2).alloc o1).heap.size; rw [World.size_alloc, World.size_alloc]; omega) (by show some w.heap.size ≠ some (w.heap.size + 1); intro k; injection k with k; omega)
  rw [e]; exact heapNew2 _ _ _
theorem infoInt : (Tryd.prog.info? 3).map (fun i => (i.zero, i.size, i.bytes)) = some (some (.int .i64 0), 1, 8) := by kernel_rfl
theorem heldPair {W w : World} {b o : Nat} {v : Value} (h : W.cell? ⟨b, o, none⟩ = some v) (k : HeldK W w) : w.cell? ⟨b, o, none⟩ = some v ∧ HeldK W w := ⟨Keep.some k h, k⟩
theorem ownsEmpty {w : World} {base e N : Nat} (h : w.heap[N]? = some (.cells #[] e)) (hb : base ≤ N) : w.ownsRow base e 1 (.slice (some ⟨N, 0, none⟩) 0 0) 0 [] :=
  ⟨rfl, Or.inr ⟨N, 0, #[], rfl, hb, h, Nat.le_refl _, Nat.zero_le _, rfl, rfl⟩⟩
theorem newsAt {W w : World} {S m : Nat} {ss : List Int} (k : HeldK W w) (h : ∀ j, j < m → W.cell? ⟨S, 0 + j, none⟩ = some (.int .i64 (ss.getD j 0))) (hl : ss.length = m) : ∀ (j : Nat) u, (ss.map (Value.int .i64))[j]? = some u → w.cell? ((⟨S, 0, none⟩ : Addr).add j) = some u := by
  intro j u hj
  rw [List.getElem?_map] at hj
  obtain ⟨x, hx, rfl⟩ := Option.map_eq_some_iff.1 hj
  have hlt : j < ss.length := by
    by_cases h' : j < ss.length
    · exact h'
    · rw [List.getElem?_eq_none (by omega)] at hx; cases hx
  have := Keep.some k (h j (by omega))
  have e : (⟨S, 0, none⟩ : Addr).add j = ⟨S, 0 + j, none⟩ := by unfold Addr.add; split <;> simp_all
  rw [e, this]
  simp [List.getD, hx]
theorem oneInts (ss : List Int) : ∀ u ∈ ss.map (Value.int .i64), u.oneCell' = true := by
  intro u hu
  obtain ⟨x, _, rfl⟩ := List.mem_map.1 hu
  rfl

theorem grownBy_refl (w : World) (r : Option Nat) : w.grownBy w r := ⟨rfl, rfl, rfl, Nat.le_refl _, fun _ _ _ => rfl⟩

/-- An append to an empty row of one's own, of any number of elements, none too. -/
theorem step_append_any {P : Program} {w : World} {ops : Array Oper} {o : Oper} {a : Act} {K : Act → World → Prop} {Q : Exit → Act → World → Prop} {E : Prop} (hgd : o.guard = none) (s x : Operand) (t : TypeId)
    (ho : o.op = .call { callee := .builtin .append, args := #[s, x], argTypes := #[t, t] })
    (base : Nat) (e : TypeId) (i : TypeInfo) (z : Value) (bytes : Nat) (ht : P.underlying t = some (.slice e)) (hi : P.info? e = some i) (hz : i.zero = some z)
    (hsize : i.size = 1) (hby : i.bytes = bytes) (hzs : z.cells.size = 1)
    (N : Nat) (hs : a.eval s = .slice (some ⟨N, 0, none⟩) 0 0) (hN : w.heap[N]? = some (.cells #[] e)) (hb : base ≤ N)
    (ad : Addr) (m c : Nat) (news : List Value) (hx : a.eval x = .slice (some ad) m c) (hl : news.length = m * 1) (hnews : ∀ (j : Nat) u, news[j]? = some u → w.cell? (ad.add j) = some u) (h1 : ∀ u ∈ news, u.oneCell' = true)
    (h63 : 0 + m ≤ maxLen) (hbytes : (0 + m) * bytes ≤ 140737488355328) (hbase : base ≤ w.heap.size)
    (h : ∀ g cap w', w'.ownsRow base e 1 (.slice (some ⟨g, 0, none⟩) (0 + m) cap) (0 + m) ([] ++ news) → w.grownBy w' (some N) → K (a.put o.dst (.slice (some ⟨g, 0, none⟩) (0 + m) cap)) w') :
    if Region.wanted o (yielded ops a.tmps) = true then Oper.wp P o a w K Q else E := by
  rcases Nat.eq_zero_or_pos m with rfl | hm
  · obtain rfl : news = [] := by cases news with | nil => rfl | cons _ _ => simp at hl
    refine step_append_room hgd s x t ho e i 1 ht hi hsize N 0 0 0 hs ad 0 c [] hx rfl hnews h1 (Nat.le_refl _) (fun j hj => absurd hj (by simp)) ?_
    exact h N 0 w (ownsEmpty hN hb) (grownBy_refl _ _)
  · exact step_append_lies w hgd s x t ho base e i z 1 bytes ht hi hz hsize hby hzs Nat.one_pos (.slice (some ⟨N, 0, none⟩) 0 0) 0 [] hs (ownsEmpty hN hb) ad m c news hx hl hnews h1 hm h63 hbytes hbase _ rfl (fun g cap w' q1 q2 _ _ => h g cap w' q1 q2)

theorem listAtOwns {w : World} {base e : Nat} {v : Value} {n : Nat} {zs : List Int} (h : w.ownsRow base e 1 v n (zs.map (Value.int .i64))) : ListAt w v zs := by
  obtain ⟨h0, ⟨rfl, rfl⟩ | ⟨g, cap, cur, rfl, hb, hg, hn, hc, hs, ht⟩⟩ := h
  · refine Or.inl ⟨rfl, ?_⟩
    cases zs with
    | nil => rfl
    | cons _ _ => simp at h0
  · have hl : zs.length = n := by simpa using h0
    refine Or.inr ⟨g, 0, n, cap, rfl, hl, by unfold maxLen at hc; omega, fun j hj => ?_⟩
    have e1 : cur.toList[j]? = some (.int .i64 (zs.getD j 0)) := by
      have e2 : (cur.toList.take (n * 1))[j]? = (zs.map (Value.int .i64))[j]? := by rw [ht]
      rw [List.getElem?_take, if_pos (by omega)] at e2
      rw [e2, List.getElem?_map, List.getElem?_eq_getElem (by omega)]
      simp [List.getD, List.getElem?_eq_getElem (show j < zs.length by omega)]
    show w.cell? ⟨g, 0 + j, none⟩ = _
    unfold World.cell?
    rw [hg]
    simpa using e1
theorem listAtSmall {w : World} {S m : Nat} {ss : List Int} (hlen : ss.length = m) (hm : m ≤ 12) (h : ∀ j, j < m → w.cell? ⟨S, 0 + j, none⟩ = some (.int .i64 (ss.getD j 0))) : ListAt w (.slice (some ⟨S, 0, none⟩) m m) ss :=
  Or.inr ⟨S, 0, m, m, rfl, hlen, by omega, h⟩

/-- The three lists whose multiples are compared: the list, the small one, and that with one number more. -/
def ThreeLists (s2 : Value) (S m : Nat) (n0 : Int) (ss : List Int) (W : World) (s91 s92 : Value) (wy : World) : Prop :=
  s92 = .int .i64 0 ∧ Hid (HeldK W wy) ∧ ∃ g c, s91 = .agg #[s2, .slice (some ⟨S, 0, none⟩) m m, .slice (some ⟨g, 0, none⟩) (m + 1) c] ∧ Hid (ListAt wy (.slice (some ⟨g, 0, none⟩) (m + 1) c) (ss ++ [n0]))

/-- What holds when the list has been cut and the small list has been made. -/
def AtSeven (W : World) (n0 n1 h0 h1 : Int) (r0 r1 x0 x1 : Int) (s2 s3 s4 s7 s66 s67 : Value) (wx : World) : Prop :=
  s66 = .agg #[.int .i64 n0, .int .i64 n1, .int .i64 r0, .int .i64 r1, .int .i64 x0, .int .i64 x1] ∧ s67 = .int .i64 0 ∧ s3 = .pointer (some ⟨W.heap.size, 0, none⟩) ∧ s4 = .pointer (some ⟨W.heap.size + 1, 0, none⟩) ∧ Hid (Keep W wx) ∧
  wx.cell? ⟨W.heap.size, 0, none⟩ = some (.int .i64 n0) ∧ wx.cell? ⟨W.heap.size, 1, none⟩ = some (.int .i64 n1) ∧ wx.cell? ⟨W.heap.size + 1, 0, none⟩ = some (.int .u8 h0) ∧ wx.cell? ⟨W.heap.size + 1, 1, none⟩ = some (.int .u8 h1) ∧
  ∃ (zs ss : List Int) (S m : Nat), Hid (ListAt wx s2 zs) ∧ s7 = .slice (some ⟨S, 0, none⟩) m m ∧ Hid (ss.length = m) ∧ m ≤ 12 ∧ Hid (∀ j, j < m → wx.cell? ⟨S, 0 + j, none⟩ = some (.int .i64 (ss.getD j 0)))

end Go.Proofs.YtbdjdmgohjjnaaaDoor
