/- What frame.fields returns, or that it panics. -/
import Derived.Test.YtmgnmkdjphnaoaaFMem
import Derived.Deep.Cut
import Derived.Deep.DeepCutAuto
namespace Go.Proofs.Ytmgnmkdjphnaoaa
open Go Go.RowKit

/-- A call returns a frame, or it panics; all that was there is as it was. -/
def Reads (o : Option Frm) (w : World) (e : Ending) (w' : World) : Prop :=
  (match o with
    | some f => e = .returned (.agg #[.int .i64 f.dst, .int .i64 f.src, .bool f.tag, .int .i64 f.prio, .int .i64 f.vid, .bool f.sq, .int .i64 f.seq, .int .i64 f.ty, .string f.data])
    | none => ∃ t v, e = .panicked [{ v := .iface t v, recovered := false }]) ∧ Keep w w'

set_option maxRecDepth 100000 in
set_option maxHeartbeats 40000000 in
theorem fields_is (s : ByteArray) (o : Option Frm) (w : World) (hs : s.size ≤ maxLen) (H : Hid (rdF s = o)) : Calls Try.prog 52 #[.string s] w (Reads o w) := by
  have hsm := hs
  unfold maxLen at hsm
  have HS := Lib.hid hs
  clear hs
  have hmf : ∀ (fn : Fn) (first cap : Array Value) (w : World), (Instr.makeFunc fn first cap).run Try.prog w = .ok (.func fn first cap) w := fun _ _ _ _ => rfl
  go_enter Try.func52, Try.ntmps52
  go_upto_region 3 with fail
  have hc : FrAt ((w.alloc (.cells #[.int .i64 0, .int .i64 0, .bool false, .int .i64 0, .int .i64 0, .bool false, .int .i64 0, .int .i64 0, .string ⟨#[]⟩] 23)).alloc (.cells #[.int .i64 0, .string s] 97)) w.heap.size 0 0 false 0 0 false 0 0 ⟨#[]⟩ := keepRow ((Keep.refl _).alloc _) (heap_alloc_new w _)
  have hr : RdAt ((w.alloc (.cells #[.int .i64 0, .int .i64 0, .bool false, .int .i64 0, .int .i64 0, .bool false, .int .i64 0, .int .i64 0, .string ⟨#[]⟩] 23)).alloc (.cells #[.int .i64 0, .string s] 97)) (w.heap.size + 1) 0 s := by
    have := heap_alloc_new (w.alloc (.cells #[.int .i64 0, .int .i64 0, .bool false, .int .i64 0, .int .i64 0, .bool false, .int .i64 0, .int .i64 0, .string ⟨#[]⟩] 23)) (.cells #[.int .i64 0, .string s] 97)
    rw [show (w.alloc (.cells #[.int .i64 0, .int .i64 0, .bool false, .int .i64 0, .int .i64 0, .bool false, .int .i64 0, .int .i64 0, .string ⟨#[]⟩] 23)).heap.size = w.heap.size + 1 by simp] at this
    exact this
  have K := Lib.hid (((Keep.refl w).alloc (.cells #[.int .i64 0, .int .i64 0, .bool false, .int .i64 0, .int .i64 0, .bool false, .int .i64 0, .int .i64 0, .string ⟨#[]⟩] 23)).alloc (.cells #[.int .i64 0, .string s] 97))
  have HNE : Hid (w.heap.size ≠ w.heap.size + 1 ∧ w.heap.size ≤ w.heap.size + 1 ∧ w.heap.size ≤ w.heap.size) := Lib.hid (by omega)
  generalize ((w.alloc (.cells #[.int .i64 0, .int .i64 0, .bool false, .int .i64 0, .int .i64 0, .bool false, .int .i64 0, .int .i64 0, .string ⟨#[]⟩] 23)).alloc (.cells #[.int .i64 0, .string s] 97)) = w0 at *
  generalize w.heap.size + 1 = R at *
  obtain ⟨C, hC⟩ : ∃ C, w.heap.size = C := ⟨_, rfl⟩
  rw [hC] at hc HNE ⊢
  replace HNE : Hid (C ≠ R ∧ w.heap.size ≤ R ∧ w.heap.size ≤ C) := Lib.hid (by rw [hC]; exact HNE.out)
  clear hC
  by_cases h14 : s.size < 14
  · obtain rfl : o = none := by rw [← H.out]; unfold rdF; rw [if_pos h14]
    clear H
    by_cases h6 : s.size < 6
    · have HE : Hid (getE s 0 6 = 5) := Lib.hid (getE_no s 0 6 (by omega) (by omega) (by omega))
      go_wp2_with (go_at_call 64; ((with_reducible refine (num_no R 0 6 _ 6 5 s _ HS.out (by unfold I64; omega) (by unfold I64; omega) hr rfl (by unfold I64; omega) (Lib.hid rfl) HE (by decide)).mono ?_); rintro e' w9 ⟨rfl, kx⟩))
      exact ⟨rfl, ⟨_, _, rfl⟩, K.out.byX kx HNE.out.2.1⟩
    · have HE1 : Hid (getE s 0 6 = 0) := Lib.hid (getE_ok s 0 6 (by omega) (by omega) (by omega))
      by_cases h12 : s.size < 12
      · have HE : Hid (getE s 6 6 = 5) := Lib.hid (getE_no s 6 6 (by omega) (by omega) (by omega))
        go_wp2_with (first | (go_at_call 64; ((with_reducible refine (num_ok R 0 6 _ 6 s _ HS.out (by unfold I64; omega) (by unfold I64; omega) hr rfl (by unfold I64; omega) (Lib.hid rfl) HE1).mono ?_); rintro e' w1 ⟨rfl, hr, kx⟩; have hc := fr_x hc kx HNE.out.1; have K := Lib.hid (K.out.byX kx HNE.out.2.1); clear kx)) | (go_at_call 64; ((with_reducible refine (num_no R 6 6 _ 12 5 s _ HS.out (by unfold I64; omega) (by unfold I64; omega) hr rfl (by unfold I64; omega) (Lib.hid rfl) HE (by decide)).mono ?_); rintro e' w9 ⟨rfl, kx⟩)))
        exact ⟨rfl, ⟨_, _, rfl⟩, K.out.byX kx HNE.out.2.1⟩
      · have HE2 : Hid (getE s 6 6 = 0) := Lib.hid (getE_ok s 6 6 (by omega) (by omega) (by omega))
        have HE : Hid (getE s 12 2 = 5) := Lib.hid (getE_no s 12 2 (by omega) (by omega) (by omega))
        go_upto_region 4 with (first | (go_at_call 64; ((with_reducible refine (num_ok R 0 6 _ 6 s _ HS.out (by unfold I64; omega) (by unfold I64; omega) hr rfl (by unfold I64; omega) (Lib.hid rfl) HE1).mono ?_); rintro e' w1 ⟨rfl, hr, kx⟩; have hc := fr_x hc kx HNE.out.1; have K := Lib.hid (K.out.byX kx HNE.out.2.1); clear kx)) | (go_at_call 64; ((with_reducible refine (num_ok R 6 6 _ 12 s _ HS.out (by unfold I64; omega) (by unfold I64; omega) hr rfl (by unfold I64; omega) (Lib.hid rfl) HE2).mono ?_); rintro e' w2 ⟨rfl, hr, kx⟩; have hc := fr_x hc kx HNE.out.1; have K := Lib.hid (K.out.byX kx HNE.out.2.1); clear kx)))
        have hb : FrAt (w2.alloc (.cells #[.int .i64 (getV s 0 6), .int .i64 (getV s 6 6), .bool false, .int .i64 0, .int .i64 0, .bool false, .int .i64 0, .int .i64 0, .string ⟨#[]⟩] 23)) w2.heap.size (getV s 0 6) (getV s 6 6) false 0 0 false 0 0 ⟨#[]⟩ := heap_alloc_new w2 _
        have HNB : Hid (w2.heap.size ≠ R ∧ w2.heap.size ≠ C) := Lib.hid ⟨by have := heap_lt hr; omega, by have := heap_lt hc; omega⟩
        have HNW : Hid (w.heap.size ≤ w2.heap.size) := Lib.hid K.out.size
        replace hr := rd_k hr ((Keep.refl w2).alloc (.cells #[.int .i64 (getV s 0 6), .int .i64 (getV s 6 6), .bool false, .int .i64 0, .int .i64 0, .bool false, .int .i64 0, .int .i64 0, .string ⟨#[]⟩] 23))
        replace hc := fr_k hc ((Keep.refl w2).alloc (.cells #[.int .i64 (getV s 0 6), .int .i64 (getV s 6 6), .bool false, .int .i64 0, .int .i64 0, .bool false, .int .i64 0, .int .i64 0, .string ⟨#[]⟩] 23))
        replace K := Lib.hid (K.out.alloc (.cells #[.int .i64 (getV s 0 6), .int .i64 (getV s 6 6), .bool false, .int .i64 0, .int .i64 0, .bool false, .int .i64 0, .int .i64 0, .string ⟨#[]⟩] 23))
        generalize w2.alloc (.cells #[.int .i64 (getV s 0 6), .int .i64 (getV s 6 6), .bool false, .int .i64 0, .int .i64 0, .bool false, .int .i64 0, .int .i64 0, .string ⟨#[]⟩] 23) = w3 at *
        generalize w2.heap.size = B at *
        go_wp2_with (go_at_call 64; ((with_reducible refine (num_no R 12 2 _ 14 5 s _ HS.out (by unfold I64; omega) (by unfold I64; omega) hr rfl (by unfold I64; omega) (Lib.hid rfl) HE (by decide)).mono ?_); rintro e' w9 ⟨rfl, kx⟩))
        exact ⟨rfl, ⟨_, _, rfl⟩, K.out.byX kx HNE.out.2.1⟩
  · have HE1 : Hid (getE s 0 6 = 0) := Lib.hid (getE_ok s 0 6 (by omega) (by omega) (by omega))
    have HE2 : Hid (getE s 6 6 = 0) := Lib.hid (getE_ok s 6 6 (by omega) (by omega) (by omega))
    have HE3 : Hid (getE s 12 2 = 0) := Lib.hid (getE_ok s 12 2 (by omega) (by omega) (by omega))
    obtain ⟨D, hD⟩ : ∃ D, getV s 0 6 = D := ⟨_, rfl⟩
    obtain ⟨S, hS⟩ : ∃ S, getV s 6 6 = S := ⟨_, rfl⟩
    obtain ⟨k1, hk1⟩ : ∃ k, getV s 12 2 = k := ⟨_, rfl⟩
    have HD := Lib.hid hD
    have HSS := Lib.hid hS
    have HK1 := Lib.hid hk1
    have HKB : Hid (0 ≤ k1 ∧ k1 < 65536) := Lib.hid (by have := getV_bd s 12 2 (by omega) (by omega) (by omega); rw [hk1] at this; exact this)
    have h := H.out
    unfold rdF at h
    rw [if_neg h14, hD, hS] at h
    replace H := Lib.hid h
    clear h hD hS hk1
    go_upto_region 4 with (first | (go_at_call 64; ((with_reducible refine (num_ok R 0 6 D 6 s _ HS.out (by unfold I64; omega) (by unfold I64; omega) hr rfl (by unfold I64; omega) HD HE1).mono ?_); rintro e' w1 ⟨rfl, hr, kx⟩; have hc := fr_x hc kx HNE.out.1; have K := Lib.hid (K.out.byX kx HNE.out.2.1); clear kx)) | (go_at_call 64; ((with_reducible refine (num_ok R 6 6 S 12 s _ HS.out (by unfold I64; omega) (by unfold I64; omega) hr rfl (by unfold I64; omega) HSS HE2).mono ?_); rintro e' w2 ⟨rfl, hr, kx⟩; have hc := fr_x hc kx HNE.out.1; have K := Lib.hid (K.out.byX kx HNE.out.2.1); clear kx)))
    have hb : FrAt (w2.alloc (.cells #[.int .i64 D, .int .i64 S, .bool false, .int .i64 0, .int .i64 0, .bool false, .int .i64 0, .int .i64 0, .string ⟨#[]⟩] 23)) w2.heap.size D S false 0 0 false 0 0 ⟨#[]⟩ := heap_alloc_new w2 _
    have HNB : Hid (w2.heap.size ≠ R ∧ w2.heap.size ≠ C) := Lib.hid ⟨by have := heap_lt hr; omega, by have := heap_lt hc; omega⟩
    have HNW : Hid (w.heap.size ≤ w2.heap.size) := Lib.hid K.out.size
    replace hr := rd_k hr ((Keep.refl w2).alloc (.cells #[.int .i64 D, .int .i64 S, .bool false, .int .i64 0, .int .i64 0, .bool false, .int .i64 0, .int .i64 0, .string ⟨#[]⟩] 23))
    replace hc := fr_k hc ((Keep.refl w2).alloc (.cells #[.int .i64 D, .int .i64 S, .bool false, .int .i64 0, .int .i64 0, .bool false, .int .i64 0, .int .i64 0, .string ⟨#[]⟩] 23))
    replace K := Lib.hid (K.out.alloc (.cells #[.int .i64 D, .int .i64 S, .bool false, .int .i64 0, .int .i64 0, .bool false, .int .i64 0, .int .i64 0, .string ⟨#[]⟩] 23))
    generalize w2.alloc (.cells #[.int .i64 D, .int .i64 S, .bool false, .int .i64 0, .int .i64 0, .bool false, .int .i64 0, .int .i64 0, .string ⟨#[]⟩] 23) = w3 at *
    generalize w2.heap.size = B at *
    go_upto_if 21 with (go_at_call 64; ((with_reducible refine (num_ok R 12 2 k1 14 s _ HS.out (by unfold I64; omega) (by unfold I64; omega) hr rfl (by unfold I64; omega) HK1 HE3).mono ?_); rintro e' w4 ⟨rfl, hr, kx⟩; have hc := fr_x hc kx HNE.out.1; have K := Lib.hid (K.out.byX kx HNE.out.2.1); have hb := fr_x hb kx HNB.out.1; clear kx))
    go_cut [7] (fun v wx => ∃ (T : Bool) (P V k : Int) (a : Nat), v = .int .i64 k ∧ Hid (rd1 s = some (T, P, V, a, k)) ∧ Hid (14 ≤ a ∧ a ≤ 18 ∧ a ≤ s.size) ∧ Hid (0 ≤ k ∧ k < 65536) ∧ Hid (RdAt wx R a s) ∧ Hid (FrAt wx B D S T P V false 0 0 ⟨#[]⟩) ∧ Hid (FrAt wx C 0 0 false 0 0 false 0 0 ⟨#[]⟩) ∧ Hid (Keep w wx))
    case first =>
      by_cases hk : k1 = 33024
      · subst hk
        obtain ⟨c, hcv⟩ : ∃ c, getV s 14 2 = c := ⟨_, rfl⟩
        have HCV := Lib.hid hcv
        obtain ⟨P, hP⟩ : ∃ P, c / 8192 = P := ⟨_, rfl⟩
        obtain ⟨V, hV⟩ : ∃ V, c % 8192 = V := ⟨_, rfl⟩
        by_cases h18 : s.size < 18
        · obtain rfl : o = none := by rw [← H.out]; unfold rd1; rw [HK1.out, if_pos rfl, if_pos h18]; rfl
          clear H
          by_cases h16 : s.size < 16
          · have HE : Hid (getE s 14 2 = 5) := Lib.hid (getE_no s 14 2 (by omega) (by omega) (by omega))
            go_wp2_with (go_at_call 64; ((with_reducible refine (num_no R 14 2 _ 16 5 s _ HS.out (by unfold I64; omega) (by unfold I64; omega) hr rfl (by unfold I64; omega) (Lib.hid rfl) HE (by decide)).mono ?_); rintro e' w9 ⟨rfl, kx⟩))
            exact ⟨rfl, ⟨_, _, rfl⟩, K.out.byX kx HNE.out.2.1⟩
          · have HE : Hid (getE s 16 2 = 5) := Lib.hid (getE_no s 16 2 (by omega) (by omega) (by omega))
            have HE4 : Hid (getE s 14 2 = 0) := Lib.hid (getE_ok s 14 2 (by omega) (by omega) (by omega))
            have hcb := getV_bd s 14 2 (by omega) (by omega) (by omega)
            rw [hcv, show (256 : Int) ^ (2 : Int).toNat = 65536 from rfl] at hcb
            have hq1 : c.tdiv 8192 = P := by rw [Int.tdiv_eq_ediv_of_nonneg hcb.1, hP]
            have hq2 : c.tmod 8192 = V := by rw [Int.tmod_eq_emod_of_nonneg hcb.1, hV]
            have hq3 : IntKind.i64.wrap P = P := IntWalk.i64_in _ (by omega)
            have hq4 : wrap64 P = P := by unfold wrap64; omega
            clear hcv hcb
            go_upto_region 8 with (go_at_call 64; ((with_reducible refine (num_ok R 14 2 c 16 s _ HS.out (by unfold I64; omega) (by unfold I64; omega) hr rfl (by unfold I64; omega) HCV HE4).mono ?_); rintro e' w5 ⟨rfl, hr, kx⟩; have hc := fr_x hc kx HNE.out.1; have K := Lib.hid (K.out.byX kx HNE.out.2.1); have hb := fr_x hb kx HNB.out.1; clear kx; obtain ⟨b0, b1, b2, b3, b4, b5, b6, b7, b8⟩ := fr_cells hb; have fb := fr_free hb))
            clear b0 b1 b2 b3 b4 b5 b6 b7 b8 fb
            replace hb := fr_tag hb P V
            replace hr := rd_x hr (keepX_tag w5 B P V) HNB.out.1.symm
            replace hc := fr_x hc (keepX_tag w5 B P V) HNB.out.2.symm
            replace K := Lib.hid (K.out.byX (keepX_tag w5 B P V) HNW.out)
            generalize (((w5.setCell ⟨B, 2, none⟩ (.bool true)).setCell ⟨B, 3, none⟩ (.int .i64 P)).setCell ⟨B, 4, none⟩ (.int .i64 V)) = w6 at *
            go_wp2_with (go_at_call 64; ((with_reducible refine (num_no R 16 2 _ 18 5 s _ HS.out (by unfold I64; omega) (by unfold I64; omega) hr rfl (by unfold I64; omega) (Lib.hid rfl) HE (by decide)).mono ?_); rintro e' w9 ⟨rfl, kx⟩))
            exact ⟨rfl, ⟨_, _, rfl⟩, K.out.byX kx HNE.out.2.1⟩
        · have HE5 : Hid (getE s 16 2 = 0) := Lib.hid (getE_ok s 16 2 (by omega) (by omega) (by omega))
          obtain ⟨k2, hk2⟩ : ∃ k, getV s 16 2 = k := ⟨_, rfl⟩
          have HK2 := Lib.hid hk2
          have HKB : Hid (0 ≤ k2 ∧ k2 < 65536) := Lib.hid (by have := getV_bd s 16 2 (by omega) (by omega) (by omega); rw [hk2] at this; exact this)
          have HR : Hid (rd1 s = some (true, P, V, 18, k2)) := Lib.hid (by unfold rd1; rw [HK1.out, if_pos rfl, if_neg h18, hcv, hP, hV, hk2])
          clear hk2
          have HE4 : Hid (getE s 14 2 = 0) := Lib.hid (getE_ok s 14 2 (by omega) (by omega) (by omega))
          have hcb := getV_bd s 14 2 (by omega) (by omega) (by omega)
          rw [hcv, show (256 : Int) ^ (2 : Int).toNat = 65536 from rfl] at hcb
          have hq1 : c.tdiv 8192 = P := by rw [Int.tdiv_eq_ediv_of_nonneg hcb.1, hP]
          have hq2 : c.tmod 8192 = V := by rw [Int.tmod_eq_emod_of_nonneg hcb.1, hV]
          have hq3 : IntKind.i64.wrap P = P := IntWalk.i64_in _ (by omega)
          have hq4 : wrap64 P = P := by unfold wrap64; omega
          clear hcv hcb
          go_upto_region 8 with (go_at_call 64; ((with_reducible refine (num_ok R 14 2 c 16 s _ HS.out (by unfold I64; omega) (by unfold I64; omega) hr rfl (by unfold I64; omega) HCV HE4).mono ?_); rintro e' w5 ⟨rfl, hr, kx⟩; have hc := fr_x hc kx HNE.out.1; have K := Lib.hid (K.out.byX kx HNE.out.2.1); have hb := fr_x hb kx HNB.out.1; clear kx; obtain ⟨b0, b1, b2, b3, b4, b5, b6, b7, b8⟩ := fr_cells hb; have fb := fr_free hb))
          clear b0 b1 b2 b3 b4 b5 b6 b7 b8 fb
          replace hb := fr_tag hb P V
          replace hr := rd_x hr (keepX_tag w5 B P V) HNB.out.1.symm
          replace hc := fr_x hc (keepX_tag w5 B P V) HNB.out.2.symm
          replace K := Lib.hid (K.out.byX (keepX_tag w5 B P V) HNW.out)
          generalize (((w5.setCell ⟨B, 2, none⟩ (.bool true)).setCell ⟨B, 3, none⟩ (.int .i64 P)).setCell ⟨B, 4, none⟩ (.int .i64 V)) = w6 at *
          go_wp2_with (go_at_call 64; ((with_reducible refine (num_ok R 16 2 k2 18 s _ HS.out (by unfold I64; omega) (by unfold I64; omega) hr rfl (by unfold I64; omega) HK2 HE5).mono ?_); rintro e' w7 ⟨rfl, hr, kx⟩; have hc := fr_x hc kx HNE.out.1; have K := Lib.hid (K.out.byX kx HNE.out.2.1); have hb := fr_x hb kx HNB.out.1; clear kx))
          go_meet
          exact ⟨true, P, V, k2, 18, rfl, HR, Lib.hid (by omega), HKB, Lib.hid hr, Lib.hid hb, Lib.hid hc, K⟩
      · have hkb : (k1 == 33024) = false := by simp [hk]
        have HR : Hid (rd1 s = some (false, 0, 0, 14, k1)) := Lib.hid (by unfold rd1; rw [HK1.out, if_neg hk])
        go_wp2
        go_meet
        exact ⟨false, 0, 0, k1, 14, rfl, HR, Lib.hid (by omega), HKB, Lib.hid hr, Lib.hid hb, Lib.hid hc, K⟩
    case rest =>
      obtain ⟨T, P, V, k, a, rfl, HR1, HA, HKB, hr, hb, hc, K⟩ := hcut
      replace hr := hr.out
      replace hb := hb.out
      replace hc := hc.out
      have ha := HA.out
      have h := H.out
      rw [HR1.out] at h
      simp only [Option.bind_some] at h
      replace H := Lib.hid h
      clear h HK1 HR1 HE1 HE2 HE3 HD HSS
      go_upto_if 34 with fail
      go_cut [7] (fun v wx => ∃ (Q : Bool) (N k' : Int) (a' : Nat), v = .int .i64 k' ∧ Hid (rd2 s a k = some (Q, N, a', k')) ∧ Hid (14 ≤ a' ∧ a' ≤ 24 ∧ a' ≤ s.size) ∧ Hid (0 ≤ k' ∧ k' < 65536) ∧ Hid (RdAt wx R a' s) ∧ Hid (FrAt wx B D S T P V Q N 0 ⟨#[]⟩) ∧ Hid (FrAt wx C 0 0 false 0 0 false 0 0 ⟨#[]⟩) ∧ Hid (Keep w wx))
      case first =>
        by_cases hk : k = 61889
        · subst hk
          have e2 : (a : Int) + 2 = ((a + 2 : Nat) : Int) := by omega
          have e4 : ((a + 2 : Nat) : Int) + 2 = ((a + 4 : Nat) : Int) := by omega
          have e6 : ((a + 4 : Nat) : Int) + 2 = ((a + 6 : Nat) : Int) := by omega
          by_cases h6 : s.size < a + 6
          · obtain rfl : o = none := by rw [← H.out]; unfold rd2; rw [if_pos rfl, if_pos h6]; rfl
            clear H
            by_cases h2 : s.size < a + 2
            · have HE : Hid (fieldE s (a : Int) 2 = 5) := Lib.hid (field_form _ _ _ (by omega) (by omega) (by rw [← Bool.not_eq_true, has_iff]; omega))
              go_wp2_with (go_at_call 65; ((with_reducible refine (prt_no R (a : Int) 2 (a + 2 : Nat) 5 _ s _ HS.out (by unfold I64; omega) (by unfold I64; omega) hr e2 (by unfold I64; omega) (Lib.hid rfl) HE (by decide)).mono ?_); rintro e' w9 ⟨rfl, kx⟩))
              exact ⟨rfl, ⟨_, _, rfl⟩, K.out.byX kx HNE.out.2.1⟩
            · have HE6 : Hid (fieldE s (a : Int) 2 = 0) := Lib.hid (field_ok _ _ _ (by omega) (by omega) (by rw [has_iff]; omega))
              by_cases h4 : s.size < a + 4
              · have HE : Hid (getE s (a + 2 : Nat) 2 = 5) := Lib.hid (getE_no _ _ _ (by omega) (by omega) (by omega))
                go_wp2_with (first | (go_at_call 65; ((with_reducible refine (prt_ok R (a : Int) 2 (a + 2 : Nat) _ s _ HS.out (by unfold I64; omega) (by unfold I64; omega) hr e2 (by unfold I64; omega) (Lib.hid rfl) HE6).mono ?_); rintro e' w5 ⟨rfl, hr, kx⟩; have hc := fr_x hc kx HNE.out.1; have K := Lib.hid (K.out.byX kx HNE.out.2.1); have hb := fr_x hb kx HNB.out.1; clear kx)) | (go_at_call 64; ((with_reducible refine (num_no R (a + 2 : Nat) 2 _ (a + 4 : Nat) 5 s _ HS.out (by unfold I64; omega) (by unfold I64; omega) hr e4 (by unfold I64; omega) (Lib.hid rfl) HE (by decide)).mono ?_); rintro e' w9 ⟨rfl, kx⟩)))
                exact ⟨rfl, ⟨_, _, rfl⟩, K.out.byX kx HNE.out.2.1⟩
              · have HE7 : Hid (getE s (a + 2 : Nat) 2 = 0) := Lib.hid (getE_ok _ _ _ (by omega) (by omega) (by omega))
                have HE : Hid (getE s (a + 4 : Nat) 2 = 5) := Lib.hid (getE_no _ _ _ (by omega) (by omega) (by omega))
                obtain ⟨N, hN⟩ : ∃ N, getV s (a + 2 : Nat) 2 = N := ⟨_, rfl⟩
                have HN := Lib.hid hN
                clear hN
                go_upto_region 12 with (first | (go_at_call 65; ((with_reducible refine (prt_ok R (a : Int) 2 (a + 2 : Nat) _ s _ HS.out (by unfold I64; omega) (by unfold I64; omega) hr e2 (by unfold I64; omega) (Lib.hid rfl) HE6).mono ?_); rintro e' w5 ⟨rfl, hr, kx⟩; have hc := fr_x hc kx HNE.out.1; have K := Lib.hid (K.out.byX kx HNE.out.2.1); have hb := fr_x hb kx HNB.out.1; clear kx)) | (go_at_call 64; ((with_reducible refine (num_ok R (a + 2 : Nat) 2 N (a + 4 : Nat) s _ HS.out (by unfold I64; omega) (by unfold I64; omega) hr e4 (by unfold I64; omega) HN HE7).mono ?_); rintro e' w6 ⟨rfl, hr, kx⟩; have hc := fr_x hc kx HNE.out.1; have K := Lib.hid (K.out.byX kx HNE.out.2.1); have hb := fr_x hb kx HNB.out.1; clear kx; obtain ⟨b0, b1, b2, b3, b4, b5, b6, b7, b8⟩ := fr_cells hb; have fb := fr_free hb)))
                clear b0 b1 b2 b3 b4 b5 b6 b7 b8 fb
                replace hb := fr_seq hb N
                replace hr := rd_x hr (keepX_seq w6 B N) HNB.out.1.symm
                replace hc := fr_x hc (keepX_seq w6 B N) HNB.out.2.symm
                replace K := Lib.hid (K.out.byX (keepX_seq w6 B N) HNW.out)
                generalize ((w6.setCell ⟨B, 5, none⟩ (.bool true)).setCell ⟨B, 6, none⟩ (.int .i64 N)) = w7 at *
                go_wp2_with (go_at_call 64; ((with_reducible refine (num_no R (a + 4 : Nat) 2 _ (a + 6 : Nat) 5 s _ HS.out (by unfold I64; omega) (by unfold I64; omega) hr e6 (by unfold I64; omega) (Lib.hid rfl) HE (by decide)).mono ?_); rintro e' w9 ⟨rfl, kx⟩))
                exact ⟨rfl, ⟨_, _, rfl⟩, K.out.byX kx HNE.out.2.1⟩
          · have HE6 : Hid (fieldE s (a : Int) 2 = 0) := Lib.hid (field_ok _ _ _ (by omega) (by omega) (by rw [has_iff]; omega))
            have HE7 : Hid (getE s (a + 2 : Nat) 2 = 0) := Lib.hid (getE_ok _ _ _ (by omega) (by omega) (by omega))
            have HE8 : Hid (getE s (a + 4 : Nat) 2 = 0) := Lib.hid (getE_ok _ _ _ (by omega) (by omega) (by omega))
            obtain ⟨N, hN⟩ : ∃ N, getV s (a + 2 : Nat) 2 = N := ⟨_, rfl⟩
            obtain ⟨k2, hk2⟩ : ∃ k, getV s (a + 4 : Nat) 2 = k := ⟨_, rfl⟩
            have HN := Lib.hid hN
            have HK2 := Lib.hid hk2
            have HKB : Hid (0 ≤ k2 ∧ k2 < 65536) := Lib.hid (by have := getV_bd s (a + 4 : Nat) 2 (by omega) (by omega) (by omega); rw [hk2] at this; exact this)
            have HR : Hid (rd2 s a 61889 = some (true, N, a + 6, k2)) := Lib.hid (by unfold rd2; rw [if_pos rfl, if_neg h6, hN, hk2])
            clear hN hk2
            go_upto_region 12 with (first | (go_at_call 65; ((with_reducible refine (prt_ok R (a : Int) 2 (a + 2 : Nat) _ s _ HS.out (by unfold I64; omega) (by unfold I64; omega) hr e2 (by unfold I64; omega) (Lib.hid rfl) HE6).mono ?_); rintro e' w5 ⟨rfl, hr, kx⟩; have hc := fr_x hc kx HNE.out.1; have K := Lib.hid (K.out.byX kx HNE.out.2.1); have hb := fr_x hb kx HNB.out.1; clear kx)) | (go_at_call 64; ((with_reducible refine (num_ok R (a + 2 : Nat) 2 N (a + 4 : Nat) s _ HS.out (by unfold I64; omega) (by unfold I64; omega) hr e4 (by unfold I64; omega) HN HE7).mono ?_); rintro e' w6 ⟨rfl, hr, kx⟩; have hc := fr_x hc kx HNE.out.1; have K := Lib.hid (K.out.byX kx HNE.out.2.1); have hb := fr_x hb kx HNB.out.1; clear kx; obtain ⟨b0, b1, b2, b3, b4, b5, b6, b7, b8⟩ := fr_cells hb; have fb := fr_free hb)))
            clear b0 b1 b2 b3 b4 b5 b6 b7 b8 fb
            replace hb := fr_seq hb N
            replace hr := rd_x hr (keepX_seq w6 B N) HNB.out.1.symm
            replace hc := fr_x hc (keepX_seq w6 B N) HNB.out.2.symm
            replace K := Lib.hid (K.out.byX (keepX_seq w6 B N) HNW.out)
            generalize ((w6.setCell ⟨B, 5, none⟩ (.bool true)).setCell ⟨B, 6, none⟩ (.int .i64 N)) = w7 at *
            go_wp2_with (go_at_call 64; ((with_reducible refine (num_ok R (a + 4 : Nat) 2 k2 (a + 6 : Nat) s _ HS.out (by unfold I64; omega) (by unfold I64; omega) hr e6 (by unfold I64; omega) HK2 HE8).mono ?_); rintro e' w8 ⟨rfl, hr, kx⟩; have hc := fr_x hc kx HNE.out.1; have K := Lib.hid (K.out.byX kx HNE.out.2.1); have hb := fr_x hb kx HNB.out.1; clear kx))
            go_meet
            exact ⟨true, N, k2, a + 6, rfl, HR, Lib.hid (by omega), HKB, Lib.hid hr, Lib.hid hb, Lib.hid hc, K⟩
        · have hkb : (k == 61889) = false := by simp [hk]
          have HR : Hid (rd2 s a k = some (false, 0, a, k)) := Lib.hid (by unfold rd2; rw [if_neg hk])
          go_wp2
          go_meet
          exact ⟨false, 0, k, a, rfl, HR, Lib.hid (by omega), HKB, Lib.hid hr, Lib.hid hb, Lib.hid hc, K⟩
      case rest =>
        clear HKB
        obtain ⟨Q, N, k', a', rfl, HR2, HA', HKB, hr, hb, hc, K⟩ := hcut
        replace hr := hr.out
        replace hb := hb.out
        replace hc := hc.out
        have ha' := HA'.out
        have h := H.out
        rw [HR2.out] at h
        simp only [Option.bind_some] at h
        replace H := Lib.hid h
        clear h HR2 HA HA' ha
        have hkk := HKB.out
        by_cases hk : k' < 1536
        · have hn : (a' : Int) + k' = ((a' + k'.toNat : Nat) : Int) := by omega
          by_cases hf : s.size < a' + k'.toNat
          · obtain rfl : o = none := by rw [← H.out]; unfold rd3; rw [if_pos hk, if_pos hf]; rfl
            clear H
            have HE : Hid (fieldE s (a' : Int) k' = 5) := Lib.hid (field_form _ _ _ (by omega) (by omega) (by rw [← Bool.not_eq_true, has_iff]; omega))
            go_wp2_with (go_at_call 65; ((with_reducible refine (prt_no R (a' : Int) k' (a' + k'.toNat : Nat) 5 _ s _ HS.out (by unfold I64; omega) (by unfold I64; omega) hr hn (by unfold I64; omega) (Lib.hid rfl) HE (by decide)).mono ?_); rintro e' w9 ⟨rfl, kx⟩))
            exact ⟨rfl, ⟨_, _, rfl⟩, K.out.byX kx HNE.out.2.1⟩
          · have hfe := field_ok s (a' : Int) k' (by omega) (by omega) (by rw [has_iff]; omega)
            obtain ⟨X, hX⟩ : ∃ X, fieldS s (a' : Int) k' = X := ⟨_, rfl⟩
            obtain rfl : o = some ⟨D, S, T, P, V, Q, N, 0, X⟩ := by
              rw [← H.out]; unfold rd3; rw [if_pos hk, if_neg hf, ← hX, fieldS_ok hfe, hn]; rfl
            clear H
            have HE := Lib.hid hfe
            have HX := Lib.hid hX
            clear hX hfe
            go_upto_region 15 with (go_at_call 65; ((with_reducible refine (prt_ok R (a' : Int) k' (a' + k'.toNat : Nat) X s _ HS.out (by unfold I64; omega) (by unfold I64; omega) hr hn (by unfold I64; omega) HX HE).mono ?_); rintro e' w9 ⟨rfl, hr, kx⟩; have hc := fr_x hc kx HNE.out.1; have K := Lib.hid (K.out.byX kx HNE.out.2.1); have hb := fr_x hb kx HNB.out.1; clear kx; obtain ⟨b0, b1, b2, b3, b4, b5, b6, b7, b8⟩ := fr_cells hb; have fb := fr_free hb))
            clear b0 b1 b2 b3 b4 b5 b6 b7 b8 fb
            have hkx := keepX_set w9 B 8 (.string X)
            replace hb := fr_data hb X
            replace hc := fr_x hc hkx HNB.out.2.symm
            replace K := Lib.hid (K.out.byX hkx HNW.out)
            clear hkx hr
            generalize (w9.setCell ⟨B, 8, none⟩ (.string X)) = w10 at *
            go_wp2_with (first | (refine wpList_load_row rfl 23 _ rfl B rfl 23 #[.int .i64 D, .int .i64 S, .bool T, .int .i64 P, .int .i64 V, .bool Q, .int .i64 N, .int .i64 0, .string X] (0, 0) _ hb Try.underlying23 rfl info_frame ?_) | (refine wpList_store_row rfl 23 _ _ rfl C rfl 23 _ #[.int .i64 D, .int .i64 S, .bool T, .int .i64 P, .int .i64 V, .bool Q, .int .i64 N, .int .i64 0, .string X] rfl hc rfl (fr_one _ _ _ _ _ _ _ _ _) info_frame ?_))
            have hg := setRow_heap _ C _ #[.int .i64 D, .int .i64 S, .bool T, .int .i64 P, .int .i64 V, .bool Q, .int .i64 N, .int .i64 0, .string X] _ _ hc
            exact bodyPost_ret (v := .agg #[.int .i64 D, .int .i64 S, .bool T, .int .i64 P, .int .i64 V, .bool Q, .int .i64 N, .int .i64 0, .string X]) (results_cell_row Try.results52 _ _ C _ #[.int .i64 D, .int .i64 S, .bool T, .int .i64 P, .int .i64 V, .bool Q, .int .i64 N, .int .i64 0, .string X] _ _ rfl hg Try.underlying23 rfl info_frame) rfl ⟨rfl, K.out.setRow HNE.out.2.2 _⟩
        · have hkb : decide (k' < 1536) = false := decide_eq_false hk
          obtain ⟨q, hq⟩ : ∃ q : Int, (s.size : Int) - 4 - a' = q := ⟨_, rfl⟩
          have hw1 : wrap64 ((s.size : Int) - 4) = s.size - 4 := by unfold wrap64; omega
          have hw2 : wrap64 ((s.size : Int) - 4 - (a' : Int)) = q := by rw [hq]; unfold wrap64; omega
          have hn : (a' : Int) + q = (s.size : Int) - 4 := by omega
          obtain ⟨r0, r1, f0⟩ := rd_cells hr
          by_cases hf : s.size < a' + 4
          · obtain rfl : o = none := by rw [← H.out]; unfold rd3; rw [if_neg hk, if_pos hf]; rfl
            clear H
            have HE : Hid (fieldE s (a' : Int) q = 2) := Lib.hid (field_bad _ _ _ (Or.inr (by omega)))
        
            go_wp2_with (go_at_call 65; ((with_reducible refine (prt_no R (a' : Int) q ((s.size : Int) - 4) 2 _ s _ HS.out (by unfold I64; omega) (by unfold I64; omega) hr hn (by unfold I64; omega) (Lib.hid rfl) HE (by decide)).mono ?_); rintro e' w9 ⟨rfl, kx⟩))
            exact ⟨rfl, ⟨_, _, rfl⟩, K.out.byX kx HNE.out.2.1⟩
          · have hfe := field_ok s (a' : Int) q (by omega) (by omega) (by rw [has_iff]; omega)
            obtain ⟨X, hX⟩ : ∃ X, fieldS s (a' : Int) q = X := ⟨_, rfl⟩
            obtain rfl : o = some ⟨D, S, T, P, V, Q, N, k', X⟩ := by
              rw [← H.out]; unfold rd3; rw [if_neg hk, if_neg hf, ← hX, fieldS_ok hfe, hn, show ((s.size : Int) - 4).toNat = s.size - 4 by omega]; rfl
            clear H
            have HE := Lib.hid hfe
            have HX := Lib.hid hX
            clear hX hfe
            clear r0 r1 f0
            obtain ⟨r0, r1, f0⟩ := rd_cells hr
            go_upto_region 17 with (go_at_call 65; ((with_reducible refine (prt_ok R (a' : Int) q ((s.size : Int) - 4) X s _ HS.out (by unfold I64; omega) (by unfold I64; omega) hr hn (by unfold I64; omega) HX HE).mono ?_); rintro e' w9 ⟨rfl, hr, kx⟩; have hc := fr_x hc kx HNE.out.1; have K := Lib.hid (K.out.byX kx HNE.out.2.1); have hb := fr_x hb kx HNB.out.1; clear kx; obtain ⟨b0, b1, b2, b3, b4, b5, b6, b7, b8⟩ := fr_cells hb; have fb := fr_free hb))
            clear b0 b1 b2 b3 b4 b5 b6 b7 b8 fb r0 r1 f0
            have hkx := (keepX_set w9 B 7 (.int .i64 k')).trans (keepX_set _ B 8 (.string X))
            replace hb := fr_data (fr_kind hb k') X
            replace hc := fr_x hc hkx HNB.out.2.symm
            replace K := Lib.hid (K.out.byX hkx HNW.out)
            clear hkx hr
            generalize ((w9.setCell ⟨B, 7, none⟩ (.int .i64 k')).setCell ⟨B, 8, none⟩ (.string X)) = w10 at *
            go_wp2_with (first | (refine wpList_load_row rfl 23 _ rfl B rfl 23 #[.int .i64 D, .int .i64 S, .bool T, .int .i64 P, .int .i64 V, .bool Q, .int .i64 N, .int .i64 k', .string X] (0, 0) _ hb Try.underlying23 rfl info_frame ?_) | (refine wpList_store_row rfl 23 _ _ rfl C rfl 23 _ #[.int .i64 D, .int .i64 S, .bool T, .int .i64 P, .int .i64 V, .bool Q, .int .i64 N, .int .i64 k', .string X] rfl hc rfl (fr_one _ _ _ _ _ _ _ _ _) info_frame ?_))
            have hg := setRow_heap _ C _ #[.int .i64 D, .int .i64 S, .bool T, .int .i64 P, .int .i64 V, .bool Q, .int .i64 N, .int .i64 k', .string X] _ _ hc
            exact bodyPost_ret (v := .agg #[.int .i64 D, .int .i64 S, .bool T, .int .i64 P, .int .i64 V, .bool Q, .int .i64 N, .int .i64 k', .string X]) (results_cell_row Try.results52 _ _ C _ #[.int .i64 D, .int .i64 S, .bool T, .int .i64 P, .int .i64 V, .bool Q, .int .i64 N, .int .i64 k', .string X] _ _ rfl hg Try.underlying23 rfl info_frame) rfl ⟨rfl, K.out.setRow HNE.out.2.2 _⟩
end Go.Proofs.Ytmgnmkdjphnaoaa
