/- Drafts, pieces, states and rows that came in by value: opened. Nothing is said of the program's code here. -/
import Derived.Test.YtgejpbgpgklimaaMOffs
import Derived.Test.YtgejpbgpgklimaaMBackM
import Derived.Test.YtgejpbgpgklimaaKeepPost
import Derived.Lib.SmallJoins
import Derived.ProofKit
import Derived.ChangeArms
namespace Go.Proofs.Ytgejpbgpgklimaa
open Go Go.Joins Go.ChangeShapes Go.WideShapes Go.ChangeAt Go.RowKit Go.Deep
variable {H : Type} {enc : TypeId × Value → H} {W : World} {base : Nat}

set_option maxRecDepth 100000 in
theorem u16_bd {B : Int} (h : (Lit.int .u16 B).wf = true) : 0 ≤ B ∧ B < 65536 := by
  simp [Lit.wf] at h
  have e1 : IntKind.u16.min = 0 := by decide
  have e2 : IntKind.u16.max = 65535 := by decide
  constructor <;> omega
set_option maxRecDepth 100000 in
theorem u8_bd {B : Int} (h : (Lit.int .u8 B).wf = true) : 0 ≤ B ∧ B < 256 := by
  simp [Lit.wf] at h
  have e1 : IntKind.u8.min = 0 := by decide
  have e2 : IntKind.u8.max = 255 := by decide
  constructor <;> omega
set_option maxRecDepth 100000 in
theorem bytesL_of {gs : List Int} (h : ∀ z ∈ gs, 0 ≤ z ∧ z < 256) : BytesL gs := by
  intro j
  rcases Nat.lt_or_ge j gs.length with h1 | h1
  · have e : gs.getD j 0 = gs[j] := by simp [List.getD, h1]
    rw [e]
    exact h _ (List.getElem_mem h1)
  · have e : gs.getD j 0 = 0 := by simp [List.getD, h1]
    rw [e]
    omega
set_option maxRecDepth 100000 in
theorem bytes_in {n : Nat} {v : Value} {y : DataW H × List MemPlace} (hc : Cell.okWide Try.prog W .any base 23 v) (h : DataW.trod enc Try.prog W 0 (fun _ => true) true n 23 [v] = some y) :
    ∃ gs, BytesL gs ∧ BytesIn W v gs := by
  rcases open_ints Try.underlying23 Try.underlying5 (by kernel_rfl) h with ⟨hcs, -⟩ | ⟨a, len, cap, zs, hcs, -, hl, hm, hz, -, hcell, hwf⟩
  · simp at hcs
    subst hcs
    exact ⟨[], bytesL_of (fun z hz => by simp at hz), Or.inl ⟨rfl, rfl⟩⟩
  · simp at hcs
    subst hcs
    obtain ⟨b, off, spot⟩ := a
    have hs : spot = none := by
      simp only [Cell.okWide, Try.underlying23, Cell.ok] at hc
      exact hc.2.2.2.1
    subst hs
    simp only [if_true] at hz
    refine ⟨zs.take len, bytesL_of fun z hz' => u8_bd (hwf z (List.mem_of_mem_take hz')), Or.inr ⟨b, off, len, cap, rfl, by rw [List.length_take]; omega, by unfold maxLen at hm; omega, fun j hj => ?_⟩⟩
    have hcj := hcell j (by omega)
    have ea : (⟨b, off, none⟩ : Addr).add j = ⟨b, off + j, none⟩ := by unfold Addr.add; split <;> simp_all
    rw [ea] at hcj
    rw [hcj]
    simp [List.getD, hj]
structure DrI (W : World) (v : Value) (x : ByteArray) (L g : Int) (V : Value) (gs : List Int) : Prop where
  val : v = .agg #[.string x, .int .u16 L, .int .u8 g, V]
  bL : 0 ≤ L ∧ L < 65536
  bg : 0 ≤ g ∧ g < 256
  bx : x.size ≤ maxLen
  bl : BytesL gs
  bi : BytesIn W V gs
set_option maxRecDepth 100000 in
theorem mdr_cells {n : Nat} {v0 v1 v2 v3 : Value} {y0 y1 y2 y3 : DataW H × List MemPlace} (h0 : DataW.trod enc Try.prog W 0 (fun _ => true) true n 9 [v0] = some y0) (h1 : DataW.trod enc Try.prog W 0 (fun _ => true) true n 22 [v1] = some y1) (h2 : DataW.trod enc Try.prog W 0 (fun _ => true) true n 5 [v2] = some y2) (h3 : DataW.trod enc Try.prog W 0 (fun _ => true) true n 23 [v3] = some y3)
    (c3 : Cell.okWide Try.prog W .any base 23 v3) : ∃ x L g gs, DrI W (.agg #[v0, v1, v2, v3]) x L g v3 gs := by
  obtain ⟨z0, e0, -, w0⟩ := DataW.trod_string Try.underlying9 h0
  obtain ⟨z1, e1, -, w1⟩ := DataW.trod_int Try.underlying22 h1
  obtain ⟨z2, e2, -, w2⟩ := DataW.trod_int Try.underlying5 h2
  simp at e0 e1 e2
  subst e0 e1 e2
  obtain ⟨gs, hg, hi⟩ := bytes_in c3 h3
  exact ⟨z0, z1, z2, gs, rfl, u16_bd w1, u8_bd w2, w0, hg, hi⟩
set_option maxRecDepth 100000 in
theorem mdr_in {v : Value} {d : DataW H} {p : List MemPlace} (hv : Value.okWide Try.prog W .any base 25 v) (h : DataW.Trod enc Try.prog W 0 (fun _ => true) true 25 v d p) :
    ∃ x L g V gs, DrI W v x L g V gs := by
  obtain ⟨v0, v1, v2, v3, y0, y1, y2, y3, n, rfl, -, -, h0, h1, h2, h3⟩ := open_agg4 Try.underlying25 (by kernel_rfl) (by kernel_rfl) hv h
  simp only [Value.okWide, Try.underlying25] at hv
  obtain ⟨cs, hcs, -, ts, hts, -, hcell⟩ := hv
  cases hcs
  have hts' : Try.prog.cellTypes Try.prog.depth 25 = some [9, 22, 5, 23] := by kernel_rfl
  rw [hts'] at hts
  cases hts
  obtain ⟨t3, k3, c3⟩ := hcell 3 v3 rfl
  simp at k3
  subst k3
  obtain ⟨x, L, g, gs, hd⟩ := mdr_cells h0 h1 h2 h3 c3
  exact ⟨x, L, g, v3, gs, hd⟩
set_option maxRecDepth 100000 in
theorem mmg_in {v : Value} {d : DataW H} {p : List MemPlace} (hv : Value.okWide Try.prog W .any base 43 v) (h : DataW.Trod enc Try.prog W 0 (fun _ => true) true 43 v d p) :
    ∃ o n x d, v = .agg #[.bool o, .int .i64 n, .int .i64 x, .string d] ∧ d.size ≤ maxLen := by
  obtain ⟨v0, v1, v2, v3, y0, y1, y2, y3, n, rfl, -, -, h0, h1, h2, h3⟩ := open_agg4 Try.underlying43 (by kernel_rfl) (by kernel_rfl) hv h
  obtain ⟨z0, e0, -⟩ := DataW.trod_bool Try.underlying4 h0
  obtain ⟨z1, e1, -, -⟩ := DataW.trod_int Try.underlying3 h1
  obtain ⟨z2, e2, -, -⟩ := DataW.trod_int Try.underlying3 h2
  obtain ⟨z3, e3, -, w3⟩ := DataW.trod_string Try.underlying9 h3
  simp at e0 e1 e2 e3
  subst e0 e1 e2 e3
  exact ⟨_, _, _, _, rfl, w3⟩
set_option maxRecDepth 100000 in
theorem mpc_in {v : Value} {d : DataW H} {p : List MemPlace} (hv : Value.okWide Try.prog W .any base 45 v) (h : DataW.Trod enc Try.prog W 0 (fun _ => true) true 45 v d p) :
    ∃ o n x d, v = .agg #[.bool o, .int .i64 n, .int .i64 x, .string d] ∧ d.size ≤ maxLen := by
  obtain ⟨v0, v1, v2, v3, y0, y1, y2, y3, n, rfl, -, -, h0, h1, h2, h3⟩ := open_agg4 Try.underlying45 (by kernel_rfl) (by kernel_rfl) hv h
  obtain ⟨z0, e0, -⟩ := DataW.trod_bool Try.underlying4 h0
  obtain ⟨z1, e1, -, -⟩ := DataW.trod_int Try.underlying3 h1
  obtain ⟨z2, e2, -, -⟩ := DataW.trod_int Try.underlying3 h2
  obtain ⟨z3, e3, -, w3⟩ := DataW.trod_string Try.underlying9 h3
  simp at e0 e1 e2 e3
  subst e0 e1 e2 e3
  exact ⟨_, _, _, _, rfl, w3⟩
set_option maxRecDepth 100000 in
theorem border_in {v : Value} {d : DataW H} {p : List MemPlace} (hv : Value.okWide Try.prog W .any base 23 v) (h : DataW.Trod enc Try.prog W 0 (fun _ => true) true 23 v d p) : ∃ gs, BytesL gs ∧ BytesIn W v gs := by
  rcases ints_in Try.underlying23 Try.underlying5 (by kernel_rfl) hv h with rfl | ⟨b, off, len, cap, zs, rfl, hl, hm, hz, hcell, hwf⟩
  · exact ⟨[], bytesL_of (fun z hz => by simp at hz), Or.inl ⟨rfl, rfl⟩⟩
  · exact ⟨zs, bytesL_of fun z hz' => u8_bd (hwf z hz'), Or.inr ⟨b, off, len, cap, rfl, hz, by unfold maxLen at hm; omega, hcell⟩⟩
set_option maxRecDepth 100000 in
theorem cuts_in {v : Value} {d : DataW H} {p : List MemPlace} (hv : Value.okWide Try.prog W .any base 26 v) (h : DataW.Trod enc Try.prog W 0 (fun _ => true) true 26 v d p) : ∃ zs, ListAt W v zs ∧ ∀ z ∈ zs, (Lit.int .i64 z).wf = true := by
  rcases ints_in Try.underlying26 Try.underlying3 (by kernel_rfl) hv h with rfl | ⟨b, off, len, cap, zs, rfl, hl, hm, hz, hcell, hwf⟩
  · exact ⟨[], Or.inl ⟨rfl, rfl⟩, fun z hz => by simp at hz⟩
  · exact ⟨zs, Or.inr ⟨b, off, len, cap, rfl, hz, by unfold maxLen at hm; omega, hcell⟩, hwf⟩
end Go.Proofs.Ytgejpbgpgklimaa
