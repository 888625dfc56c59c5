/- The chapter's string; joins; refused. -/
import Derived.Test.YtgejpbgpgklimaaMBackM
import Derived.Test.YtgejpbgpgklimaaMSame
import Derived.Test.YtgejpbgpgklimaaMJoin
import Derived.Test.YtgejpbgpgklimaaShelf
import Derived.Lib.ConvBytes
namespace Go.Proofs.Ytgejpbgpgklimaa
open Go Go.RowKit

def chapL : List UInt8 := (List.range 130).map UInt8.ofNat
def chapS : ByteArray := sealG ⟨chapL.toArray⟩ 0#32
theorem chap_size : chapS.size = 134 := by
  unfold chapS
  rw [sealG_size]
  rfl
theorem chap_whole : wholeB chapS = true := wholeB_iff.2 ⟨by rw [chap_size]; omega, goodS_seal _ _⟩
theorem infoByte : (Try.prog.info? 5).map (fun i => (i.zero, i.size, i.bytes)) = some (some (.int .u8 0), 1, 1) := by kernel_rfl
set_option maxRecDepth 100000 in
set_option maxHeartbeats 2000000 in
theorem chapter_is (t : ByteArray) (w : World) (H : Hid (chapS = t)) : Calls Try.prog 31 #[] w (Res (.string t) w) := by
  obtain ⟨i0, hi, hz0, hz1, hz2⟩ := info_parts infoByte
  obtain ⟨c, hc⟩ : ∃ c : ByteArray, ⟨chapL.toArray⟩ = c := ⟨_, rfl⟩
  have hcs : c.size ≤ 100000 := by rw [← hc]; decide
  have HT : Hid (sealG c 0#32 = t) := Lib.hid (by rw [← hc]; exact H.out)
  go_enter Try.func31, Try.ntmps31
  go_wp2
  go_loopw [1, 2] (fun s1 s2 wr => ∃ k : Nat, k ≤ 130 ∧ s2 = .int .i64 k ∧ Hid (wr.ownsRow w.heap.size 5 1 s1 k ((List.range k).map fun j : Nat => Value.int .u8 (j : Int)) ∧ Keep w wr)) (fun _ i _ => 130 - (intOf i).toNat)
  case atStart => exact ⟨0, by omega, rfl, Lib.hid ⟨World.ownsRow_nil _ _ _ 1, Keep.refl _⟩⟩
  case round =>
    obtain ⟨k, hk, rfl, HR⟩ := hrel
    by_cases hlt : k < 130
    · have hki : (k : Int) < 130 := by omega
      have hw : IntKind.u8.wrap (k : Int) = (k : Int) := by show (k : Int) % 256 = k; omega
      have HSZ := Lib.hid HR.out.2.size
      go_wp2_with (at_builtin; refine wpList_append_own_at _ rfl _ _ 23 rfl w.heap.size 5 i0 (.int .u8 0) 1 1 Try.underlying23 hi hz0 hz1 hz2 rfl (by decide) u1 k _ rfl (HR.out.1.alloc _) ⟨_, 0, none⟩ 1 1 [.int .u8 (k : Int)] rfl rfl (one_at _ _ _ _ (by simp)) (by intro u hu; simp at hu; subst hu; rfl) (by unfold maxLen; omega) (by omega) (by have := HSZ.out; simp; omega) ?_; intro v' w8 hown8 hg8 hnil8 hat8)
      go_roundw
      case rel =>
        refine ⟨k + 1, by omega, by go_num, Lib.hid ⟨?_, ?_⟩⟩
        · rw [List.range_succ, List.map_append]
          exact hown8
        · exact (HR.out.2.alloc _).byRow hg8 (fun j e => (HR.out.1.lt j e).1)
      case measure => simp [intOf]; omega
    · obtain rfl : k = 130 := by omega
      obtain ⟨g, cap, cur, rfl, hb, hg, hn, hm, hs, ht⟩ : ∃ g cap cur, u1 = .slice (some ⟨g, 0, none⟩) 130 cap ∧ w.heap.size ≤ g ∧ wr.heap[g]? = some (.cells cur 5 (0, 0)) ∧ 130 ≤ cap ∧ cap ≤ maxLen ∧ cur.size = cap * 1 ∧ cur.toList.take (130 * 1) = (List.range 130).map fun j : Nat => Value.int .u8 (j : Int) := by
        rcases HR.out.1.2 with ⟨_, h0⟩ | h'
        · omega
        · exact h'
      have hconv : (convert 23 9 (.slice (some ⟨g, 0, none⟩) 130 cap)).run Try.prog wr = .ok (.string c) wr := by
        rw [← hc]
        exact run_convert_bytes_back (P := Try.prog) wr 23 9 5 ⟨g, 0, none⟩ _ chapL Try.underlying23 Try.underlying5 Try.underlying9 (fun j hj => by
          have hj' : j < 130 := hj
          have hadd : (⟨g, 0, none⟩ : Addr).add j = ⟨g, j, none⟩ := by unfold Addr.add; split <;> simp_all
          rw [hadd, cell_of_row wr g j cur _ (0, 0) hg, ← Array.getElem?_toList]
          have e := congrArg (fun l : List Value => l[j]?) ht
          simp only [Nat.mul_one, List.getElem?_take, hj', if_true] at e
          rw [e]
          have h1 : (UInt8.ofNat j).toNat = j := by rw [UInt8.toNat_ofNat']; omega
          simp [chapL, hj', h1])
      clear hc hm hs ht hg
      go_wp2_with (go_at_call 26; ((with_reducible refine (seal_is c t _ hcs HT).mono ?_); rintro e' w2 ⟨rfl, k2⟩))
      go_ret
      exact ⟨rfl, HR.out.2.trans k2⟩
set_option maxRecDepth 100000 in
set_option maxHeartbeats 2000000 in
theorem joins_yes (o : Bool) (n0 x0 : Int) (d0 : ByteArray) (S : Bool) (n c : Int) (X : ByteArray) (o1 : Bool) (n1 x1 : Int) (d1 : ByteArray) (s : ByteArray) (w : World)
    (HM : Hid (joinM ⟨o, n0, x0, d0⟩ ⟨S, n, c, X⟩ = ⟨o1, n1, x1, d1⟩)) (HS : Hid (joinS ⟨o, n0, x0, d0⟩ ⟨S, n, c, X⟩ = s)) (HE : Hid (joinE ⟨o, n0, x0, d0⟩ ⟨S, n, c, X⟩ = 0)) :
    Calls Try.prog 30 #[.agg #[.bool o, .int .i64 n0, .int .i64 x0, .string d0], .agg #[.bool S, .int .i64 n, .int .i64 c, .string X], .agg #[.bool o1, .int .i64 n1, .int .i64 x1, .string d1], .string s] w (Res (.bool true) w) := by
  go_enter Try.func30, Try.ntmps30
  go_upto_region 1 with fail
  obtain ⟨w0, A, B, C, hw, hAe, hBe, hCe, hA, hB, hC, K, hle, hAB, hBC, hCl⟩ := three_blocks w (.cells #[.bool o, .int .i64 n0, .int .i64 x0, .string d0] 43) (.cells #[.bool S, .int .i64 n, .int .i64 c, .string X] 45) (.cells #[.bool o1, .int .i64 n1, .int .i64 x1, .string d1] 43)
  rw [hw, hCe, hBe, hAe]
  clear hw hAe hBe hCe
  replace hA : MgT 43 w0 A o n0 x0 d0 := hA
  replace hB : MgT 45 w0 B S n c X := hB
  replace hC : MgT 43 w0 C o1 n1 x1 d1 := hC
  obtain ⟨a0, a1, a2, a3⟩ := mg_cells hA
  obtain ⟨b0, b1, b2, b3⟩ := mg_cells hB
  go_wp2_with (go_at_call 20; ((with_reducible refine (join_is o n0 x0 d0 S n c X _ s 0 _ HM HS HE).mono ?_); rintro e' w1 ⟨rfl, k1⟩; have hC := mg_k hC k1; obtain ⟨c0, c1, c2, c3⟩ := mg_cells hC; have hCl1 := mg_lt hC))
  go_ret
  exact ⟨rfl, (K.trans k1).alloc _⟩
set_option maxRecDepth 100000 in
theorem refused_yes (s : ByteArray) (n : Int) (v : Value) (cuts : List Int) (E : Int) (w : World) (h : ListAt w v cuts) (HL : Hid (cutL s n cuts = [])) (HE : Hid (cutE s n cuts = E)) : Calls Try.prog 33 #[.string s, .int .i64 n, v, .int .i64 E] w (Res (.bool true) w) := by
  go_enter Try.func33, Try.ntmps33
  go_wp2_with (go_at_call 13; ((with_reducible refine (cut_is s n v cuts [] E _ h HL HE).mono ?_); rintro e' w1 ⟨u, rfl, ho, k1⟩; obtain ⟨a1, cap1, rfl, -, -⟩ := ho.row.any))
  go_ret
  exact ⟨rfl, k1⟩
theorem keepBelow {w w' : World} (h : Below w.heap.size w w') : Keep w w' := ⟨h.os, h.output, h.size, h.block⟩
/-- A string of n octets x. -/
def repS (x : UInt8) (n : Nat) : ByteArray := ⟨(List.replicate n x).toArray⟩
theorem repS_size (x n) : (repS x n).size = n := by simp [repS, ByteArray.size]
theorem rep_is (x : UInt8) (n : Nat) (c : Int) (t : ByteArray) (w : World) (hn : n ≤ 100000) (hc : c = n) (H : Hid (repS x n = t)) : Calls Try.prog 32 #[.string ⟨#[x]⟩, .int .i64 c] w (Res (.string t) w) := by
  subst hc
  have hsz : (⟨#[x]⟩ : ByteArray).size = 1 := rfl
  refine (Try.strings_Repeat ⟨#[x]⟩ n w (by omega) (by rw [hsz]; omega)).mono ?_
  rintro e w' ⟨rfl, hb⟩
  refine ⟨?_, keepBelow hb⟩
  rw [← H.out]
  unfold repS
  have h1 : (#[x] : Array UInt8).toList = List.replicate 1 x := rfl
  rw [h1, Lib.repeatL_replicate, Nat.mul_one]
theorem own_any {w : World} {base : Nat} {u : Value} {l : List Pc} (h : OwnP w base u l) (hl : 1 ≤ l.length) : ∃ g cap, u = .slice (some ⟨g, 0, none⟩) l.length cap ∧ base ≤ g ∧ ∀ j p, l[j]? = some p → PcIn w g (j * 4) p := by
  rcases h.row with ⟨rfl, rfl⟩ | ⟨b, off, n, cap, h1, h2, h3, h4⟩
  · simp at hl
  · rcases h.2 with ⟨h5, h6⟩ | ⟨g, cap', cur, h5, hb, _⟩
    · omega
    · rw [h1] at h5
      cases h5
      exact ⟨b, cap, by rw [h1, h2], hb, fun j p hj => by have := h4 j p hj; rwa [Nat.zero_add] at this⟩
theorem lit1 (w : World) (a : Int) (t : TypeId) (g : Nat) (hg : g = w.heap.size) : ListAt (w.alloc (.cells #[.int .i64 a] t)) (.slice (some ⟨g, 0, none⟩) 1 1) [a] := by
  subst hg
  refine .inr ⟨_, 0, 1, 1, rfl, rfl, by omega, fun j hj => ?_⟩
  obtain rfl : j = 0 := by omega
  rw [cell_of_row _ _ _ _ _ _ (heap_alloc_new w _)]
  rfl
theorem lit2 (w : World) (a b : Int) (t : TypeId) (g : Nat) (hg : g = w.heap.size) : ListAt (w.alloc (.cells #[.int .i64 a, .int .i64 b] t)) (.slice (some ⟨g, 0, none⟩) 2 2) [a, b] := by
  subst hg
  refine .inr ⟨_, 0, 2, 2, rfl, rfl, by omega, fun j hj => ?_⟩
  rcases (show j = 0 ∨ j = 1 by omega) with rfl | rfl
  · rw [cell_of_row _ _ _ _ _ _ (heap_alloc_new w _)]
    rfl
  · rw [cell_of_row _ _ _ _ _ _ (heap_alloc_new w _)]
    rfl
theorem litNil (w : World) : ListAt w (.slice none 0 0) [] := .inl ⟨rfl, rfl⟩
end Go.Proofs.Ytgejpbgpgklimaa
