/- A frame whose last piece is changed. Nothing is said of the program here. -/
import Derived.Test.YtgejpbgpgklimaaMBackM
import Derived.Test.YtgejpbgpgklimaaMPcs
import Derived.Test.YtgejpbgpgklimaaCFlip
namespace Go.Proofs.Ytgejpbgpgklimaa
open Go Go.RowKit

theorem bit_front {l m : List UInt8} {i : Nat} (h : i < 8 * l.length) : bitAt (l ++ m) i = bitAt l i := by
  unfold bitAt
  have h1 : i / 8 < l.length := by omega
  simp [List.getD, List.getElem?_append_left h1]
theorem bit_back {l m : List UInt8} {i : Nat} (h : 8 * l.length ≤ i) : bitAt (l ++ m) i = bitAt m (i - 8 * l.length) := by
  unfold bitAt
  have h1 : l.length ≤ i / 8 := by omega
  have h2 : (i - 8 * l.length) / 8 = i / 8 - l.length := by omega
  have h3 : (i - 8 * l.length) % 8 = i % 8 := by omega
  simp [List.getD, List.getElem?_append_right h1, h2, h3]
theorem flip_end (u v : ByteArray) (a p : Nat) (g : BitVec 32) (h : flipS v a p ≠ v) (hg : goodS (u ++ v) g = true) : goodS (u ++ flipS v a p) g = false := by
  unfold goodS at *
  have e1 : (u ++ v).data.toList = u.data.toList ++ v.data.toList := by rw [ByteArray.data_append, Array.toList_append]
  have e2 : (u ++ flipS v a p).data.toList = u.data.toList ++ flipN v.data.toList a p 32 := by rw [ByteArray.data_append, Array.toList_append, flipS_list]
  rw [e1] at hg
  rw [e2]
  refine burst_not_good (a := 8 * u.data.toList.length + a) g (by rw [List.length_append, List.length_append, flipN_length]) (fun i hi => ?_) (fun e => h (bytes_ext ?_)) hg
  · rcases Nat.lt_or_ge i (8 * u.data.toList.length) with h1 | h1
    · rw [bit_front h1, bit_front h1]
    · rw [bit_back h1, bit_back h1, flipN_bit, decide_eq_false (by omega)]
      simp
  · rw [flipS_list]
    exact List.append_cancel_left e
/-- The octets before the last piece. -/
theorem last_data (s : ByteArray) (n : Int) (cuts : List Int) : s.extract 0 (fr cuts cuts.length) ++ (pcAt s n cuts cuts.length).data = s := by
  have e : (pcAt s n cuts cuts.length).data = s.extract (fr cuts cuts.length) s.size := by
    unfold pcAt
    dsimp only
    rw [if_neg (by omega)]
  rw [e]
  exact join_end s _
theorem recv_bad (d : ByteArray) (m x : Int) (hd : goodS d 0#32 = false) : (recv d m x).2 = ⟨#[]⟩ := by
  unfold recv
  split
  · rfl
  · rw [hd]
    simp only [Bool.false_eq_true, if_false]
    split <;> rfl
section
variable {s : ByteArray} {n : Int} {cuts : List Int} (h : Whole s n cuts)
include h
theorem last_bad (m : Mg) (hm : m.okB = true) (hk : cuts.length = 0 ∨ m = stK s n cuts cuts.length) (a p : Nat) :
    joinE m ⟨(pcAt s n cuts cuts.length).st, n, (pcAt s n cuts cuts.length).cnt, flipS (pcAt s n cuts cuts.length).data a p⟩ = 0 ∧
    (flipS (pcAt s n cuts cuts.length).data a p = (pcAt s n cuts cuts.length).data ∨ joinS m ⟨(pcAt s n cuts cuts.length).st, n, (pcAt s n cuts cuts.length).cnt, flipS (pcAt s n cuts cuts.length).data a p⟩ = ⟨#[]⟩) := by
  have hp := pc_ok h (k := cuts.length) (Nat.le_refl _)
  have hp2 : Pc.okB ⟨(pcAt s n cuts cuts.length).st, n, (pcAt s n cuts cuts.length).cnt, flipS (pcAt s n cuts cuts.length).data a p⟩ = true := by
    rw [okP_iff] at hp ⊢
    rw [flipS_size]
    exact hp
  refine ⟨by unfold joinE errP; rw [hm, hp2]; rfl, ?_⟩
  by_cases hne : flipS (pcAt s n cuts cuts.length).data a p = (pcAt s n cuts cuts.length).data
  · exact .inl hne
  · refine .inr ?_
    have hl := last_data s n cuts
    have hbad : goodS (s.extract 0 (fr cuts cuts.length) ++ flipS (pcAt s n cuts cuts.length).data a p) 0#32 = false := flip_end _ _ a p _ hne (by rw [hl]; exact h.good)
    unfold joinS
    rw [hm, hp2]
    simp only [Bool.and_true, if_true]
    unfold stepM
    dsimp only
    rcases Nat.eq_zero_or_pos cuts.length with h0 | h0
    · have e1 : (pcAt s n cuts cuts.length).st = true := by rw [h0]; rfl
      have e2 : s.extract 0 (fr cuts cuts.length) = ⟨#[]⟩ := by rw [h0]; exact size_nil (by rw [ByteArray.size_extract]; show min 0 _ - 0 = 0; omega)
      rw [e1]
      simp only [if_true]
      refine recv_bad _ _ _ ?_
      rw [e2] at hbad
      have e3 : ∀ z : ByteArray, (⟨#[]⟩ : ByteArray) ++ z = z := fun z => by apply bytes_ext; simp [ByteArray.data_append]
      rwa [e3] at hbad
    · have hm' : m = ⟨true, n, (((cuts.length - 1) % 4 : Nat) : Int), s.extract 0 (fr cuts cuts.length)⟩ := by
        rcases hk with hk | hk
        · omega
        · rw [hk]; unfold stK; rw [if_neg (by omega)]
      have e1 : (pcAt s n cuts cuts.length).st = false := by unfold pcAt; exact decide_eq_false (by omega)
      rw [e1]
      simp only [Bool.false_eq_true, if_false]
      split
      · refine recv_bad _ _ _ ?_
        rw [hm']
        exact hbad
      · rfl
end
/-- The pieces with the last one's Data replaced. -/
def pcF (s : ByteArray) (n : Int) (cuts : List Int) (fl : ByteArray) (k : Nat) : Pc := if k = cuts.length then ⟨(pcAt s n cuts k).st, n, (pcAt s n cuts k).cnt, fl⟩ else pcAt s n cuts k
theorem dam_step {s : ByteArray} {n : Int} {cuts : List Int} (h : Whole s n cuts) (a p : Nat) (i : Nat) (hi : i ≤ cuts.length) (m : Mg) (hok : m.okB = true) (hm : m = stK s n cuts i) :
    joinE m (pcF s n cuts (flipS (pcAt s n cuts cuts.length).data a p) i) = 0 ∧
    (joinS m (pcF s n cuts (flipS (pcAt s n cuts cuts.length).data a p) i) = ⟨#[]⟩ ∨ (i = cuts.length ∧ flipS (pcAt s n cuts cuts.length).data a p = (pcAt s n cuts cuts.length).data)) ∧
    (i + 1 ≤ cuts.length → joinM m (pcF s n cuts (flipS (pcAt s n cuts cuts.length).data a p) i) = stK s n cuts (i + 1)) := by
  by_cases hl : i = cuts.length
  · subst hl
    have e : pcF s n cuts (flipS (pcAt s n cuts cuts.length).data a p) cuts.length = ⟨(pcAt s n cuts cuts.length).st, n, (pcAt s n cuts cuts.length).cnt, flipS (pcAt s n cuts cuts.length).data a p⟩ := by unfold pcF; rw [if_pos rfl]
    rw [e]
    have hb := last_bad h m hok (.inr hm) a p
    refine ⟨hb.1, ?_, fun h1 => by omega⟩
    rcases hb.2 with h1 | h1
    · exact .inr ⟨rfl, h1⟩
    · exact .inl h1
  · have e : pcF s n cuts (flipS (pcAt s n cuts cuts.length).data a p) i = pcAt s n cuts i := by unfold pcF; rw [if_neg hl]
    rw [e]
    have hj := join_any h (k := i) hi m hok (.inr hm)
    exact ⟨hj.2.2, .inl (by rw [hj.2.1, if_neg hl]), fun _ => hj.1⟩
theorem PcIn.set {w : World} {g i : Nat} {p : Pc} (h : PcIn w g i p) (j : Nat) (v : Value) (hj : j < i ∨ i + 4 ≤ j) : PcIn (w.setCell ⟨g, j, none⟩ v) g i p := by
  have e : ∀ k, k < 4 → (w.setCell ⟨g, j, none⟩ v).cell? ⟨g, i + k, none⟩ = w.cell? ⟨g, i + k, none⟩ := fun k hk => World.cell?_setCell_other _ _ _ _ (by intro c; injection c with c1 c2; omega)
  exact ⟨(e 0 (by omega)).trans h.1, (e 1 (by omega)).trans h.2.1, (e 2 (by omega)).trans h.2.2.1, (e 3 (by omega)).trans h.2.2.2⟩
theorem PcIn.data {w : World} {g i : Nat} {S : Bool} {n c : Int} {X : ByteArray} (h : PcIn w g i ⟨S, n, c, X⟩) (Y : ByteArray) : PcIn (w.setCell ⟨g, i + 3, none⟩ (.string Y)) g i ⟨S, n, c, Y⟩ := by
  have e : ∀ k, k < 3 → (w.setCell ⟨g, i + 3, none⟩ (.string Y)).cell? ⟨g, i + k, none⟩ = w.cell? ⟨g, i + k, none⟩ := fun k hk => World.cell?_setCell_other _ _ _ _ (by intro c; injection c with c1 c2; omega)
  exact ⟨(e 0 (by omega)).trans h.1, (e 1 (by omega)).trans h.2.1, (e 2 (by omega)).trans h.2.2.1, World.cell?_setCell_same _ _ _ h.2.2.2⟩
theorem own_free {w : World} {base : Nat} {g n cap : Nat} {l : List Pc} (h : OwnP w base (.slice (some ⟨g, 0, none⟩) n cap) l) (j : Nat) : w.frozen? ⟨g, j, none⟩ = false := by
  rcases h.2 with ⟨h1, _⟩ | ⟨g', cap', cur, h1, _, hg, _⟩
  · cases h1
  · cases h1
    exact frozen_of_row w g j _ _ hg
theorem own_lt {w : World} {base : Nat} {g n cap : Nat} {l : List Pc} (h : OwnP w base (.slice (some ⟨g, 0, none⟩) n cap) l) : g < w.heap.size := by
  rcases h.2 with ⟨h1, _⟩ | ⟨g', cap', cur, h1, _, hg, _⟩
  · cases h1
  · cases h1
    exact heap_lt hg
end Go.Proofs.Ytgejpbgpgklimaa
