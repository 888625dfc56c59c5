/- What Extend and Of of the package crc return. -/
import Derived.Test.YtgejpbgpgklimaaCBuild
namespace Go.Proofs.Ytgejpbgpgklimaa
open Go Go.RowKit

theorem zero_register (w : World) : (zeroValue 116).run Try.prog w = .ok (.agg (Array.replicate 257 (.int .u32 0))) w := by kernel_rfl
theorem info_register : (Try.prog.info? 116).map (·.size) = some 257 := by kernel_rfl
theorem not_val (c : Int) (hc : 0 ≤ c ∧ c < 4294967296) : bits .xor .u32 (if IntKind.u32.signed = true then -1 else IntKind.u32.max) c = cv (~~~bvOf c) := by
  have e : (if IntKind.u32.signed = true then -1 else IntKind.u32.max) = cv ones := by decide
  conv => lhs; rw [e, ← cv_bvOf hc]
  rw [cv_xor, BitVec.xor_comm, not_eq]
theorem regRow_one (c) : ∀ v ∈ (regRow c).toList, v.oneCell' = true := by
  intro v hv
  unfold regRow at hv
  rw [Array.toList_append, List.mem_append] at hv
  rcases hv with hv | hv
  · simp at hv; subst hv; rfl
  · exact tabA_one _ v hv
/-- What the walk of Extend knows of the register that it makes: nothing of the table's numbers. -/
structure Made (N : Int) (T Z R : Array Value) : Prop where
  zero : ∀ w : World, (zeroValue 116).run Try.prog w = .ok (.agg Z) w
  built : Try.prog.built 116 [(0, .int .u32 N), (1, .agg T)] = some R
  size : Z.size = R.size
  one : ∀ v ∈ R.toList, v.oneCell' = true
  info : (Try.prog.info? 116).map (·.size) = some R.size
  table : ∀ w : World, Calls Try.prog 77 #[] w (Res (.agg T) w)
theorem made (c : BitVec 32) : ∃ T Z R, R = regRow c ∧ Made (cv c) T Z R :=
  ⟨tabA 256, Array.replicate 257 (.int .u32 0), regRow c, rfl, ⟨zero_register, built_register _ _ (tabA_size _), by rw [regRow_size]; simp, regRow_one c, by rw [regRow_size]; exact info_register, steps_any⟩⟩
set_option maxRecDepth 100000 in
set_option maxHeartbeats 1000000 in
theorem ext_any (c : Int) (s : ByteArray) (w : World) (hc : 0 ≤ c ∧ c < 4294967296) (hs : s.size ≤ maxLen) : Calls Try.prog 66 #[.int .u32 c, .string s] w (Res (.int .u32 (cv (extB (bvOf c) s.data.toList))) w) := by
  unfold maxLen at hs
  have hN := not_val c hc
  obtain ⟨T, Z, R, hR, hm⟩ := made (~~~bvOf c)
  obtain ⟨N, hNN⟩ : ∃ N, cv (~~~bvOf c) = N := ⟨_, rfl⟩
  rw [hNN] at hm hN
  have hz := hm.zero
  have HM := Lib.hid hm
  have HR := Lib.hid hR
  clear hm hR hNN
  go_enter Try.func66, Try.ntmps66
  go_wp2_with (first | (go_at_call 77; ((with_reducible refine (HM.out.table _).mono ?_); rintro e w1 ⟨rfl, k1⟩)) | (refine wpList_build_is rfl 116 #[(0, .tmp 9), (1, .tmp 10)] rfl R HM.out.built ?_) | (refine wpList_store_row rfl 116 _ _ rfl w1.heap.size rfl 116 Z R rfl (heap_alloc_new _ _) HM.out.size HM.out.one HM.out.info ?_))
  clear hz
  obtain ⟨B, hB⟩ : ∃ B, w1.heap.size = B := ⟨_, rfl⟩
  have hBw : w.heap.size ≤ B := by have := k1.size; omega
  have HK0 : Hid (Keep w ((w1.alloc (Obj.cells Z 116)).setRow B R)) := Lib.hid ((k1.alloc _).setRow hBw _)
  have HG0 : Hid (((w1.alloc (Obj.cells Z 116)).setRow B R).heap[B]? = some (.cells (regRow (~~~bvOf c)) 116 (0, 0))) := Lib.hid (by rw [← HR.out]; subst hB; exact setRow_heap _ _ _ _ _ _ (heap_alloc_new _ _))
  rw [hB]
  clear hB
  have HNN := Lib.hid hN
  clear hN
  go_loopw [7, 15] (fun _ i wr => ∃ k : Nat, k ≤ s.size ∧ i = .int .i64 k ∧ Hid (Keep w wr) ∧ Hid (wr.heap[B]? = some (.cells (regRow (reg (~~~bvOf c) (s.data.toList.take k))) 116 (0, 0)))) (fun _ i _ => s.size - (intOf i).toNat)
  case atStart => exact ⟨0, by omega, rfl, HK0, by simpa [reg] using HG0⟩
  case round =>
    obtain ⟨k, hk, rfl, HK, HG⟩ := hrel
    obtain ⟨d, hd⟩ : ∃ d, reg (~~~bvOf c) (s.data.toList.take k) = d := ⟨_, rfl⟩
    rw [hd] at HG
    by_cases hlt : k < s.size
    · obtain ⟨o, ho⟩ : ∃ o, s[k] = o := ⟨_, rfl⟩
      have HS : Hid (reg (~~~bvOf c) (s.data.toList.take (k + 1)) = oct d o) := Lib.hid (by rw [take_snoc s k hlt, reg_snoc, hd, ho])
      have hidx := fun w => index_str s k k w (o.toNat : Int) rfl hlt (by rw [ho])
      clear hd ho
      go_wp2_with (go_at_call 78; ((with_reducible refine (take_any B d o _ _ HG.out).mono ?_); rintro e w2 ⟨rfl, _, rfl⟩))
      go_roundw
      case rel => exact ⟨k + 1, by omega, by go_num, Lib.hid (Keep.drew (HK.out.setCell hBw _)), Lib.hid (by rw [heap_drew, heap_setCell_same _ _ _ _ _ _ HG.out, regRow_set, HS.out])⟩
      case measure => simp [intOf]; omega
    · obtain rfl : k = s.size := by omega
      have hall : s.data.toList.take s.size = s.data.toList := List.take_of_length_le (Nat.le_of_eq rfl)
      rw [hall] at hd
      have hcell : wr.cell? ⟨B, 0, none⟩ = some (.int .u32 (cv d)) := (cell_of_row _ _ _ _ _ _ HG.out).trans (regRow_zero d)
      have hD := not_val (cv d) (cv_bd d)
      rw [bvOf_cv] at hD
      have HE : Hid (cv (~~~d) = cv (extB (bvOf c) s.data.toList)) := Lib.hid (by unfold extB; rw [hd])
      generalize cv (extB (bvOf c) s.data.toList) = r at *
      generalize cv (~~~d) = D2 at *
      generalize cv d = D at *
      clear hd hall
      go_wp2
      go_ret
      exact ⟨by rw [← HE.out]; rfl, HK.out⟩
theorem ext_is (c r : Int) (s : ByteArray) (w : World) (hc : 0 ≤ c ∧ c < 4294967296) (hs : s.size ≤ maxLen) (H : Hid (cv (extB (bvOf c) s.data.toList) = r)) : Calls Try.prog 66 #[.int .u32 c, .string s] w (Res (.int .u32 r) w) := by
  have := ext_any c s w hc hs
  rwa [H.out] at this
set_option maxRecDepth 100000 in
theorem of_is (r : Int) (s : ByteArray) (w : World) (hs : s.size ≤ maxLen) (H : Hid (cv (extB 0#32 s.data.toList) = r)) : Calls Try.prog 51 #[.string s] w (Res (.int .u32 r) w) := by
  have h0 : (0 : Int) ≤ 0 ∧ (0 : Int) < 4294967296 := by omega
  have H' : Hid (cv (extB (bvOf 0) s.data.toList) = r) := Lib.hid (by rw [show bvOf 0 = 0#32 by decide]; exact H.out)
  go_enter Try.func51, Try.ntmps51
  go_wp2_with (go_at_call 66; ((with_reducible refine (ext_is 0 r s _ h0 hs H').mono ?_); rintro e w1 ⟨rfl, k1⟩))
  go_ret
  exact ⟨rfl, k1⟩
end Go.Proofs.Ytgejpbgpgklimaa
