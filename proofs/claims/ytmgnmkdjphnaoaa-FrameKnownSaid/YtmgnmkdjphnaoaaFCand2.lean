/- What the reference's candidate returns. -/
import Derived.Test.YtmgnmkdjphnaoaaFCand
namespace Go.Proofs.Ytmgnmkdjphnaoaa
open Go Go.RowKit

theorem ext_ext (s : ByteArray) (p m a b : Nat) (h : p + b ≤ m) : (s.extract p m).extract a b = s.extract (p + a) (p + b) := by
  apply bytes_ext
  rw [extract_list, extract_list, extract_list, List.drop_take, List.drop_drop, List.take_take]
  congr 1
  omega
def cd1 (s : ByteArray) : Bool × Int × Int × Nat := if getV s 12 2 = 33024 then (true, getV s 14 2 / 8192, getV s 14 2 % 8192, 16) else (false, 0, 0, 12)
def cd2 (s : ByteArray) (p : Nat) : Bool × Int × Nat := if getV s p 2 = 61889 ∧ getV s (p + 2 : Nat) 2 = 0 then (true, getV s (p + 4 : Nat) 2, p + 6) else (false, 0, p)
def cd3 (s : ByteArray) (p : Nat) : Int × ByteArray := if 1536 ≤ getV s p 2 then (getV s p 2, s.extract (p + 2) (s.size - 4)) else (0, s.extract (p + 2) (p + 2 + min (getV s p 2).toNat (s.size - 4 - (p + 2))))
def cand (s : ByteArray) : Frm := ⟨getV s 0 6, getV s 6 6, (cd1 s).1, (cd1 s).2.1, (cd1 s).2.2.1, (cd2 s (cd1 s).2.2.2).1, (cd2 s (cd1 s).2.2.2).2.1, (cd3 s (cd2 s (cd1 s).2.2.2).2.2).1, (cd3 s (cd2 s (cd1 s).2.2.2).2.2).2⟩
theorem getV_ext (s : ByteArray) (a k : Nat) (hk : 1 ≤ k ∧ k ≤ 7) (h : a + k ≤ s.size) : vl (s.extract a (a + k)).data.toList = getV s a k := by
  unfold getV
  rw [if_pos (getE_ok s a k (by omega) (by omega) (by omega))]
  unfold pc
  rw [show ((a : Int)).toNat = a by omega, show ((a : Int) + (k : Int)).toNat = a + k by omega]
theorem vl_inj : ∀ {a b : List UInt8}, a.length = b.length → vl a = vl b → a = b
  | [], [], _, _ => rfl
  | x :: a, y :: b, hl, h => by
    have hl' : a.length = b.length := by simpa using hl
    rw [vl_cons, vl_cons, hl'] at h
    have ha := vl_bd a
    have hb := vl_bd b
    rw [hl'] at ha
    have hp := pow_pos b.length
    have hx : (x.toNat : Int) = (y.toNat : Int) := by
      rcases Int.lt_trichotomy (x.toNat : Int) (y.toNat : Int) with hlt | he | hgt
      · exfalso
        have := Int.mul_le_mul_of_nonneg_right (show (x.toNat : Int) + 1 ≤ y.toNat by omega) (show (0 : Int) ≤ 256 ^ b.length by omega)
        rw [Int.add_mul] at this
        omega
      · exact he
      · exfalso
        have := Int.mul_le_mul_of_nonneg_right (show (y.toNat : Int) + 1 ≤ x.toNat by omega) (show (0 : Int) ≤ 256 ^ b.length by omega)
        rw [Int.add_mul] at this
        omega
    have hxy : x = y := by
      apply UInt8.toNat_inj.1
      omega
    subst hxy
    rw [vl_inj hl' (by omega)]
theorem two_cmp (s : ByteArray) (p : Nat) (c : List UInt8) (v : Int) (hc : c.length = 2) (hv : vl c = v) (h : p + 2 ≤ s.size) : ((s.extract p (p + 2)).data.toList = c) ↔ getV s p 2 = v := by
  have e := getV_ext s p 2 (by omega) h
  have hl : (s.extract p (p + 2)).data.toList.length = 2 := by
    have : (s.extract p (p + 2)).data.toList.length = (s.extract p (p + 2)).size := rfl
    rw [this, ByteArray.size_extract]
    omega
  have e' : getV s p 2 = vl (s.extract p (p + 2)).data.toList := e.symm
  rw [e', ← hv]
  exact ⟨fun h => by rw [h], fun h => vl_inj (by omega) h⟩
theorem four_cmp (s : ByteArray) (p : Nat) (h : p + 4 ≤ s.size) : ((s.extract p (p + 4)).data.toList = [241, 193, 0, 0]) ↔ (getV s p 2 = 61889 ∧ getV s (p + 2 : Nat) 2 = 0) := by
  have e1 := two_cmp s p [241, 193] 61889 rfl (by decide) (by omega)
  have e2 := two_cmp s (p + 2) [0, 0] 0 rfl (by decide) (by omega)
  rw [← e1, ← e2]
  have hs : (s.extract p (p + 4)).data.toList = (s.extract p (p + 2)).data.toList ++ (s.extract (p + 2) (p + 2 + 2)).data.toList := by
    rw [extract_list, extract_list, extract_list, show p + 4 - p = 2 + 2 by omega, show p + 2 - p = 2 by omega, show p + 2 + 2 - (p + 2) = 2 by omega, List.take_add, List.drop_drop]
  have hl : (s.extract p (p + 2)).data.toList.length = 2 := by
    have : (s.extract p (p + 2)).data.toList.length = (s.extract p (p + 2)).size := rfl
    rw [this, ByteArray.size_extract]
    omega
  rw [hs, show ([241, 193, 0, 0] : List UInt8) = [241, 193] ++ [0, 0] from rfl]
  constructor
  · intro h
    exact List.append_inj h hl
  · rintro ⟨h1, h2⟩
    rw [h1, h2]

def RetF (f : Frm) (w : World) (e : Ending) (w' : World) : Prop :=
  e = .returned (.agg #[.int .i64 f.dst, .int .i64 f.src, .bool f.tag, .int .i64 f.prio, .int .i64 f.vid, .bool f.sq, .int .i64 f.seq, .int .i64 f.ty, .string f.data]) ∧ Keep w w'
set_option maxRecDepth 100000 in
set_option maxHeartbeats 10000000 in
theorem cand_any (s : ByteArray) (w : World) (h64 : 64 ≤ s.size) (hs : s.size ≤ maxLen) : Calls Try.prog 39 #[.string s] w (RetF (cand s) w) := by
  unfold maxLen at hs
  obtain ⟨D, hD⟩ : ∃ D, getV s 0 6 = D := ⟨_, rfl⟩
  obtain ⟨S, hS⟩ : ∃ S, getV s 6 6 = S := ⟨_, rfl⟩
  obtain ⟨a6, ha6⟩ : ∃ a, s.extract 0 6 = a := ⟨_, rfl⟩
  obtain ⟨b6, hb6⟩ : ∃ a, s.extract 6 12 = a := ⟨_, rfl⟩
  have za : a6.size ≤ 6 := by rw [← ha6, ByteArray.size_extract]; omega
  have zb : b6.size ≤ 6 := by rw [← hb6, ByteArray.size_extract]; omega
  have HVA : Hid (vl a6.data.toList = D) := Lib.hid (by rw [← ha6, ← hD]; exact getV_ext s 0 6 (by omega) (by omega))
  have HVB : Hid (vl b6.data.toList = S) := Lib.hid (by rw [← hb6, ← hS]; exact getV_ext s 6 6 (by omega) (by omega))
  have HSA := Lib.hid ha6
  have HSB := Lib.hid hb6
  have ZA := Lib.hid za
  have ZB := Lib.hid zb
  clear ha6 hb6 za zb
  obtain ⟨⟨T, P, V, p⟩, hc1⟩ : ∃ x, cd1 s = x := ⟨_, rfl⟩
  obtain ⟨⟨Q, N, p'⟩, hc2⟩ : ∃ x, cd2 s p = x := ⟨_, rfl⟩
  obtain ⟨⟨Y, X⟩, hc3⟩ : ∃ x, cd3 s p' = x := ⟨_, rfl⟩
  have HF : Hid (cand s = ⟨D, S, T, P, V, Q, N, Y, X⟩) := Lib.hid (by unfold cand; rw [hc1]; dsimp only; rw [hc2]; dsimp only; rw [hc3, hD, hS])
  rw [HF.out]
  have HC1 := Lib.hid hc1
  have HC2 := Lib.hid hc2
  have HC3 := Lib.hid hc3
  clear hc1 hc2 hc3 hD hS HF
  obtain ⟨m, hm⟩ : ∃ m, s.size - 4 = m := ⟨_, rfl⟩
  go_enter Try.func39, Try.ntmps39
  go_upto_region 1 with fail
  have hc : FrAt (w.alloc (.cells #[.int .i64 0, .int .i64 0, .bool false, .int .i64 0, .int .i64 0, .bool false, .int .i64 0, .int .i64 0, .string ⟨#[]⟩] 23)) w.heap.size 0 0 false 0 0 false 0 0 ⟨#[]⟩ := heap_alloc_new w _
  have K := Lib.hid ((Keep.refl w).alloc (.cells #[.int .i64 0, .int .i64 0, .bool false, .int .i64 0, .int .i64 0, .bool false, .int .i64 0, .int .i64 0, .string ⟨#[]⟩] 23))
  generalize w.alloc (.cells #[.int .i64 0, .int .i64 0, .bool false, .int .i64 0, .int .i64 0, .bool false, .int .i64 0, .int .i64 0, .string ⟨#[]⟩] 23) = w0 at *
  obtain ⟨C, hC⟩ : ∃ C, w.heap.size = C := ⟨_, rfl⟩
  rw [hC] at hc ⊢
  have HCW : Hid (w.heap.size ≤ C) := Lib.hid (Nat.le_of_eq hC)
  clear hC
  refine region_tail (h := 8) (W0 := w0) (listF [fun v ww => v = .string s, fun v ww => v = .string a6, fun v ww => v = .int .i64 D, fun v ww => v = .string s, fun v ww => v = .string b6, fun v ww => v = .int .i64 S, fun v ww => v = .agg #[.int .i64 D, .int .i64 S, .bool false, .int .i64 0, .int .i64 0, .bool false, .int .i64 0, .int .i64 0, .string ⟨#[]⟩], fun v ww => ∃ B, v = .pointer (some ⟨B, 0, none⟩) ∧ w0.heap.size ≤ B ∧ FrAt ww B 0 0 false 0 0 false 0 0 ⟨#[]⟩]) (listF_stable _ ⟨fun _ _ _ _ h => h, fun _ _ _ _ h => h, fun _ _ _ _ h => h, fun _ _ _ _ h => h, fun _ _ _ _ h => h, fun _ _ _ _ h => h, fun _ _ _ _ h => h, fun _ _ _ hk ⟨B, h1, h2, h3⟩ => ⟨B, h1, h2, fr_k h3 hk⟩, trivial⟩) (by kernel_rfl) (by kernel_rfl) (by kernel_rfl) (by kernel_rfl) (by kernel_rfl) (by kernel_rfl) (Keep.refl _) ?done1 ?steps1
  case done1 =>
    intro T1 wz1 hJ
    obtain ⟨x0, t0, f0⟩ := hJ.fact 0 5 (by decide) (by kernel_rfl)
    obtain rfl : x0 = .string s := f0
    obtain ⟨x1, t1, f1⟩ := hJ.fact 1 6 (by decide) (by kernel_rfl)
    obtain rfl : x1 = .string a6 := f1
    obtain ⟨x2, t2, f2⟩ := hJ.fact 2 7 (by decide) (by kernel_rfl)
    obtain rfl : x2 = .int .i64 D := f2
    obtain ⟨x3, t3, f3⟩ := hJ.fact 3 8 (by decide) (by kernel_rfl)
    obtain rfl : x3 = .string s := f3
    obtain ⟨x4, t4, f4⟩ := hJ.fact 4 9 (by decide) (by kernel_rfl)
    obtain rfl : x4 = .string b6 := f4
    obtain ⟨x5, t5, f5⟩ := hJ.fact 5 10 (by decide) (by kernel_rfl)
    obtain rfl : x5 = .int .i64 S := f5
    obtain ⟨x6, t6, f6⟩ := hJ.fact 6 11 (by decide) (by kernel_rfl)
    obtain rfl : x6 = .agg #[.int .i64 D, .int .i64 S, .bool false, .int .i64 0, .int .i64 0, .bool false, .int .i64 0, .int .i64 0, .string ⟨#[]⟩] := f6
    obtain ⟨x7, t7, f7⟩ := hJ.fact 7 3 (by decide) (by kernel_rfl)
    replace f7 : ∃ B, x7 = .pointer (some ⟨B, 0, none⟩) ∧ w0.heap.size ≤ B ∧ FrAt wz1 B 0 0 false 0 0 false 0 0 ⟨#[]⟩ := f7
    have hfr := hJ.frameTo [(5, .string s), (6, .string a6), (7, .int .i64 D), (8, .string s), (9, .string b6), (10, .int .i64 S), (11, .agg #[.int .i64 D, .int .i64 S, .bool false, .int .i64 0, .int .i64 0, .bool false, .int .i64 0, .int .i64 0, .string ⟨#[]⟩]), (3, x7)] (by simp [t0, t1, t2, t3, t4, t5, t6, t7]) (by kernel_rfl)
    have G := hJ.keep
    clear hJ t0 t1 t2 t3 t4 t5 t6 t7
    rw [hfr]
    clear hfr T1
    simp only [List.foldl_cons, List.foldl_nil, List.setIfInBounds_toArray, List.set_cons_zero, List.set_cons_succ, List.drop_succ_cons, List.drop_zero]
    obtain ⟨B, rfl, hB, hb⟩ := f7
    have hc' := fr_k hc G
    have HNB : Hid (B ≠ C ∧ w.heap.size ≤ B) := Lib.hid ⟨by have := heap_lt hc; omega, Nat.le_trans K.out.size hB⟩
    have K1 := Lib.hid (K.out.trans G)
    clear hc K G hB
    refine wpList_store_row rfl 23 _ _ rfl B rfl 23 _ #[.int .i64 D, .int .i64 S, .bool false, .int .i64 0, .int .i64 0, .bool false, .int .i64 0, .int .i64 0, .string ⟨#[]⟩] rfl hb rfl (fr_one _ _ _ _ _ _ _ _ _) info_frame ?_
    have hg : FrAt (wz1.setRow B #[.int .i64 D, .int .i64 S, .bool false, .int .i64 0, .int .i64 0, .bool false, .int .i64 0, .int .i64 0, .string ⟨#[]⟩]) B D S false 0 0 false 0 0 ⟨#[]⟩ := setRow_heap wz1 B _ _ _ _ hb
    have hc : FrAt (wz1.setRow B #[.int .i64 D, .int .i64 S, .bool false, .int .i64 0, .int .i64 0, .bool false, .int .i64 0, .int .i64 0, .string ⟨#[]⟩]) C 0 0 false 0 0 false 0 0 ⟨#[]⟩ := (setRow_other wz1 B C _ HNB.out.1.symm).trans hc'
    have K := Lib.hid (K1.out.setRow HNB.out.2 #[.int .i64 D, .int .i64 S, .bool false, .int .i64 0, .int .i64 0, .bool false, .int .i64 0, .int .i64 0, .string ⟨#[]⟩])
    clear hb hc' K1
    generalize wz1.setRow B #[.int .i64 D, .int .i64 S, .bool false, .int .i64 0, .int .i64 0, .bool false, .int .i64 0, .int .i64 0, .string ⟨#[]⟩] = w1 at *
    have hb := hg
    clear hg
    have hw4 : wrap64 ((s.size : Int) - 4) = (m : Int) := by unfold wrap64; omega
    have hm4 : (s.size : Int) - 4 = (m : Int) := by omega
    have hb1 : (12 : Int) ≤ (m : Int) := by omega
    have hb2 : (m : Int) ≤ (s.size : Int) := by omega
    have hz2 : (s.extract 12 m).size = m - 12 := by rw [ByteArray.size_extract]; omega
    have hb3 : (2 : Int) ≤ ((m - 12 : Nat) : Int) := by omega
    have hs2 := ext_ext s 12 m 0 2 (by omega)
    obtain ⟨k1, hk1⟩ : ∃ k, getV s 12 2 = k := ⟨_, rfl⟩
    have hcm := two_cmp s 12 [129, 0] 33024 rfl (by decide) (by omega)
    rw [show (((12 : Nat) : Int)) = 12 from rfl, hk1] at hcm
    obtain ⟨c2, hc2⟩ : ∃ c, s.extract (12 + 0) (12 + 2) = c := ⟨_, rfl⟩
    rw [hc2] at hs2
    rw [show s.extract 12 (12 + 2) = c2 from hc2] at hcm
    obtain ⟨u1, hu1⟩ : ∃ u, s.extract 12 m = u := ⟨_, rfl⟩
    rw [hu1] at hs2 hz2
    clear hc2
    have hbq : (c2.toList == [129, 0]) = decide (k1 = 33024) := by rw [show ([129, 0] : List UInt8) = (⟨#[129, 0]⟩ : ByteArray).toList from by simp [ByteArray.toList_eq], beq_bytes]; exact decide_eq_decide.2 hcm
    clear hcm
    go_upto_if 19 with fail
    go_cut [0] (fun v wx => v = .string (s.extract p m) ∧ Hid (FrAt wx B D S T P V false 0 0 ⟨#[]⟩) ∧ Hid (FrAt wx C 0 0 false 0 0 false 0 0 ⟨#[]⟩) ∧ Hid (Keep w wx))
    case first =>
      have hcd := HC1.out
      unfold cd1 at hcd
      rw [hk1] at hcd
      by_cases hk : k1 = 33024
      · rw [if_pos hk] at hcd
        simp only [Prod.mk.injEq] at hcd
        obtain ⟨rfl, hP, hV, rfl⟩ := hcd
        have hbt : (c2.toList == [129, 0]) = true := by rw [hbq]; exact decide_eq_true hk
        clear hbq
        obtain ⟨c, hcv⟩ : ∃ c, getV s 14 2 = c := ⟨_, rfl⟩
        obtain ⟨x, hx⟩ : ∃ x, s.extract 14 16 = x := ⟨_, rfl⟩
        have hcb := getV_bd s 14 2 (by omega) (by omega) (by omega)
        have hxv : Hid (vl x.data.toList = c) := Lib.hid (by rw [← hx, ← hcv]; exact getV_ext s 14 2 (by omega) (by omega))
        rw [hcv] at hP hV hcb
        rw [show (256 : Int) ^ (2 : Int).toNat = 65536 from rfl] at hcb
        have hxz : x.size ≤ 6 := by rw [← hx, ByteArray.size_extract]; omega
        have hs4 : u1.extract 2 4 = x := by rw [← hu1, ← hx]; exact ext_ext s 12 m 2 4 (by omega)
        have hs5 : u1.extract 4 (m - 12) = s.extract 16 m := by rw [← hu1, ext_ext s 12 m 4 (m - 12) (by omega), show 12 + (m - 12) = m by omega]
        have hq1 : c.tdiv 8192 = P := by rw [Int.tdiv_eq_ediv_of_nonneg hcb.1, hP]
        have hq2 : c.tmod 8192 = V := by rw [Int.tmod_eq_emod_of_nonneg hcb.1, hV]
        have hq3 : IntKind.i64.wrap P = P := IntWalk.i64_in _ (by omega)
        have hq4 : wrap64 P = P := by unfold wrap64; omega
        have hb4 : (4 : Int) ≤ ((m - 12 : Nat) : Int) := by omega
        have HXZ := Lib.hid hxz
        clear hx hcv hP hV hcb hxz hu1
        obtain ⟨b0, b1, b2, b3, b4, b5, b6, b7, b8⟩ := fr_cells (show FrAt w1.drew B D S false 0 0 false 0 0 ⟨#[]⟩ from hb)
        have fb := fr_free (show FrAt w1.drew B D S false 0 0 false 0 0 ⟨#[]⟩ from hb)
        have f2 := fb 2
        have f3 := fb 3
        have f4 := fb 4
        clear fb
        obtain ⟨-, -, p2, p3, p4, -, -, -, -⟩ := fr_cells hb
        have e2 := fr_free hb 2
        have e3 := fr_free hb 3
        have e4 := fr_free hb 4
        go_upto_region 4 with fail
        go_region_with (go_at_call 54; ((with_reducible refine (value_is x c _ HXZ.out hxv).mono ?_); rintro e' w9 ⟨rfl, rfl⟩))
        go_wp2
        go_meet
        have hc3 := fr_x hc (keepX_tag w1 B P V) HNB.out.1.symm
        have hb3 := fr_tag hb P V
        exact ⟨rfl, Lib.hid hb3, Lib.hid hc3, Lib.hid ((K.out.byX (keepX_tag w1 B P V) HNB.out.2).drew)⟩
      · rw [if_neg hk] at hcd
        simp only [Prod.mk.injEq] at hcd
        obtain ⟨rfl, rfl, rfl, rfl⟩ := hcd
        have hbf : (c2.toList == [129, 0]) = false := by rw [hbq]; exact decide_eq_false hk
        clear hbq
        go_wp2
        go_meet
        exact ⟨by rw [hu1], Lib.hid hb, Lib.hid hc, K⟩
    case rest =>
      obtain ⟨rfl, hb, hc, K⟩ := hcut
      replace hb := hb.out
      replace hc := hc.out
      have hp : 12 ≤ p ∧ p ≤ 16 := by
        have hcd := HC1.out
        unfold cd1 at hcd
        split at hcd <;> (simp only [Prod.mk.injEq] at hcd; omega)
      clear hbq hk1 hu1 hz2 hs2 hb1 hb3 HC1
      obtain ⟨u2, hu2⟩ : ∃ u, s.extract p m = u := ⟨_, rfl⟩
      rw [hu2]
      have hz2 : u2.size = m - p := by rw [← hu2, ByteArray.size_extract]; omega
      have hb1 : (4 : Int) ≤ ((m - p : Nat) : Int) := by omega
      have hcm := four_cmp s p (by omega)
      obtain ⟨c4, hc4⟩ : ∃ c, s.extract p (p + 4) = c := ⟨_, rfl⟩
      rw [hc4] at hcm
      have hs2 : u2.extract 0 4 = c4 := by rw [← hu2, ← hc4]; exact ext_ext s p m 0 4 (by omega)
      obtain ⟨g, hg⟩ : ∃ g : Bool, decide (getV s p 2 = 61889 ∧ getV s (p + 2 : Nat) 2 = 0) = g := ⟨_, rfl⟩
      have hbq : (c4.toList == [241, 193, 0, 0]) = g := by rw [← hg, show ([241, 193, 0, 0] : List UInt8) = (⟨#[241, 193, 0, 0]⟩ : ByteArray).toList from by simp [ByteArray.toList_eq], beq_bytes]; exact decide_eq_decide.2 hcm
      clear hcm hc4
      go_upto_if 35 with fail
      go_cut [0] (fun v wx => v = .string (s.extract p' m) ∧ Hid (FrAt wx B D S T P V Q N 0 ⟨#[]⟩) ∧ Hid (FrAt wx C 0 0 false 0 0 false 0 0 ⟨#[]⟩) ∧ Hid (Keep w wx))
      case first =>
        have hcd := HC2.out
        unfold cd2 at hcd
        cases g with
        | true =>
          rw [if_pos (of_decide_eq_true hg)] at hcd
          simp only [Prod.mk.injEq] at hcd
          obtain ⟨rfl, hN, rfl⟩ := hcd
          obtain ⟨x, hx⟩ : ∃ x, s.extract (p + 4) (p + 6) = x := ⟨_, rfl⟩
          have hxv : Hid (vl x.data.toList = N) := Lib.hid (by rw [← hx, ← hN]; exact getV_ext s (p + 4) 2 (by omega) (by omega))
          have hxz : x.size ≤ 6 := by rw [← hx, ByteArray.size_extract]; omega
          have hs4 : u2.extract 4 6 = x := by rw [← hu2, ← hx]; exact ext_ext s p m 4 6 (by omega)
          have hs5 : u2.extract 6 (m - p) = s.extract (p + 6) m := by rw [← hu2, ext_ext s p m 6 (m - p) (by omega), show p + (m - p) = m by omega]
          have hb4 : (6 : Int) ≤ ((m - p : Nat) : Int) := by omega
          have HXZ := Lib.hid hxz
          clear hx hN hxz hu2 hg
          obtain ⟨b0, b1, b2, b3, b4, b5, b6, b7, b8⟩ := fr_cells hb
          have f5 := fr_free hb 5
          have f6 := fr_free hb 6
          go_wp2_with (go_at_call 54; ((with_reducible refine (value_is x N _ HXZ.out hxv).mono ?_); rintro e' w9 ⟨rfl, hw9⟩; subst hw9))
          go_meet
          have hc3 := fr_x hc (keepX_seq _ B N) HNB.out.1.symm
          have hb3 := fr_seq hb N
          exact ⟨rfl, Lib.hid hb3, Lib.hid hc3, Lib.hid (K.out.byX (keepX_seq _ B N) HNB.out.2)⟩
        | false =>
          rw [if_neg (of_decide_eq_false hg)] at hcd
          simp only [Prod.mk.injEq] at hcd
          obtain ⟨rfl, rfl, rfl⟩ := hcd
          go_wp2
          go_meet
          exact ⟨by rw [hu2], Lib.hid hb, Lib.hid hc, K⟩
      case rest =>
        obtain ⟨rfl, hb, hc, K⟩ := hcut
        replace hb := hb.out
        replace hc := hc.out
        have hp' : 12 ≤ p' ∧ p' ≤ 22 := by
          have hcd := HC2.out
          unfold cd2 at hcd
          split at hcd <;> (simp only [Prod.mk.injEq] at hcd; omega)
        clear hbq hg hu2 hz2 hs2 hb1 HC2 hp
        obtain ⟨u3, hu3⟩ : ∃ u, s.extract p' m = u := ⟨_, rfl⟩
        rw [hu3]
        have hz3 : u3.size = m - p' := by rw [← hu3, ByteArray.size_extract]; omega
        have hb1 : (2 : Int) ≤ ((m - p' : Nat) : Int) := by omega
        obtain ⟨k, hk⟩ : ∃ k, getV s p' 2 = k := ⟨_, rfl⟩
        have hkb := getV_bd s p' 2 (by omega) (by omega) (by omega)
        rw [hk, show (256 : Int) ^ (2 : Int).toNat = 65536 from rfl] at hkb
        obtain ⟨x, hx⟩ : ∃ x, s.extract p' (p' + 2) = x := ⟨_, rfl⟩
        have hxv : Hid (vl x.data.toList = k) := Lib.hid (by rw [← hx, ← hk]; exact getV_ext s p' 2 (by omega) (by omega))
        have hxz : x.size ≤ 6 := by rw [← hx, ByteArray.size_extract]; omega
        have hs2 : u3.extract 0 2 = x := by rw [← hu3, ← hx]; exact ext_ext s p' m 0 2 (by omega)
        obtain ⟨d, hd⟩ : ∃ d, s.extract (p' + 2) m = d := ⟨_, rfl⟩
        have hs5 : u3.extract 2 (m - p') = d := by rw [← hu3, ← hd, ext_ext s p' m 2 (m - p') (by omega), show p' + (m - p') = m by omega]
        have hdz : d.size = m - p' - 2 := by rw [← hd, ByteArray.size_extract]; omega
        have HXZ := Lib.hid hxz
        have hcd := HC3.out
        unfold cd3 at hcd
        rw [hk, hm] at hcd
        clear hx hk hxz hu3
        obtain ⟨b0, b1, b2, b3, b4, b5, b6, b7, b8⟩ := fr_cells hb
        have f7 := fr_free hb 7
        have f8 := fr_free hb 8
        by_cases hk : 1536 ≤ k
        · rw [if_pos hk] at hcd
          simp only [Prod.mk.injEq] at hcd
          rw [hd] at hcd
          obtain ⟨rfl, rfl⟩ := hcd
          have hkd : decide (1536 ≤ k) = true := decide_eq_true hk
          go_upto_region 14 with (go_at_call 54; ((with_reducible refine (value_is x k _ HXZ.out hxv).mono ?_); rintro e' w9 ⟨rfl, hw9⟩; subst hw9))
          have hkx := (keepX_set w9 B 8 (.string d)).trans (keepX_set _ B 7 (.int .i64 k))
          have hb' : FrAt ((w9.setCell ⟨B, 8, none⟩ (.string d)).setCell ⟨B, 7, none⟩ (.int .i64 k)) B D S T P V Q N k d := fr_kind (fr_data hb d) k
          have hc' := fr_x hc hkx HNB.out.1.symm
          have K' := Lib.hid (K.out.byX hkx HNB.out.2)
          clear hb hc K b0 b1 b2 b3 b4 b5 b6 b7 b8 f7 f8
          generalize ((w9.setCell ⟨B, 8, none⟩ (.string d)).setCell ⟨B, 7, none⟩ (.int .i64 k)) = w3 at *
          go_wp2_with (first | (refine wpList_load_row rfl 23 _ rfl B rfl 23 #[.int .i64 D, .int .i64 S, .bool T, .int .i64 P, .int .i64 V, .bool Q, .int .i64 N, .int .i64 k, .string d] (0, 0) _ hb' Try.underlying23 rfl info_frame ?_) | (refine wpList_store_row rfl 23 _ _ rfl C rfl 23 _ #[.int .i64 D, .int .i64 S, .bool T, .int .i64 P, .int .i64 V, .bool Q, .int .i64 N, .int .i64 k, .string d] rfl hc' rfl (fr_one _ _ _ _ _ _ _ _ _) info_frame ?_))
          have hg := setRow_heap _ C _ #[.int .i64 D, .int .i64 S, .bool T, .int .i64 P, .int .i64 V, .bool Q, .int .i64 N, .int .i64 k, .string d] _ _ hc'
          exact bodyPost_ret (v := .agg #[.int .i64 D, .int .i64 S, .bool T, .int .i64 P, .int .i64 V, .bool Q, .int .i64 N, .int .i64 k, .string d]) (results_cell_row Try.results39 _ _ C _ #[.int .i64 D, .int .i64 S, .bool T, .int .i64 P, .int .i64 V, .bool Q, .int .i64 N, .int .i64 k, .string d] _ _ rfl hg Try.underlying23 rfl info_frame) rfl ⟨rfl, K'.out.setRow HCW.out _⟩
        · rw [if_neg hk] at hcd
          simp only [Prod.mk.injEq] at hcd
          obtain ⟨rfl, hX⟩ := hcd
          have hkd : decide (1536 ≤ k) = false := decide_eq_false hk
          obtain ⟨j, hj⟩ : ∃ j : Nat, min k.toNat (m - (p' + 2)) = j := ⟨_, rfl⟩
          rw [hj] at hX
          have hmn : min k ((m - p' - 2 : Nat) : Int) = (j : Int) := by omega
          have hjb : (j : Int) ≤ ((m - p' - 2 : Nat) : Int) := by omega
          have hs6 : d.extract 0 j = X := by rw [← hd, ← hX]; exact ext_ext s (p' + 2) m 0 j (by omega)
          go_upto_region 14 with (go_at_call 54; ((with_reducible refine (value_is x k _ HXZ.out hxv).mono ?_); rintro e' w9 ⟨rfl, hw9⟩; subst hw9))
          have hkx := (keepX_set w9 B 8 (.string d)).trans (keepX_set _ B 8 (.string X))
          have hb' : FrAt ((w9.setCell ⟨B, 8, none⟩ (.string d)).setCell ⟨B, 8, none⟩ (.string X)) B D S T P V Q N 0 X := fr_data (fr_data hb d) X
          have hc' := fr_x hc hkx HNB.out.1.symm
          have K' := Lib.hid (K.out.byX hkx HNB.out.2)
          clear hb hc K b0 b1 b2 b3 b4 b5 b6 b7 b8 f7 f8
          generalize ((w9.setCell ⟨B, 8, none⟩ (.string d)).setCell ⟨B, 8, none⟩ (.string X)) = w3 at *
          go_wp2_with (first | (refine wpList_load_row rfl 23 _ rfl B rfl 23 #[.int .i64 D, .int .i64 S, .bool T, .int .i64 P, .int .i64 V, .bool Q, .int .i64 N, .int .i64 0, .string X] (0, 0) _ hb' Try.underlying23 rfl info_frame ?_) | (refine wpList_store_row rfl 23 _ _ rfl C rfl 23 _ #[.int .i64 D, .int .i64 S, .bool T, .int .i64 P, .int .i64 V, .bool Q, .int .i64 N, .int .i64 0, .string X] rfl hc' rfl (fr_one _ _ _ _ _ _ _ _ _) info_frame ?_))
          have hg := setRow_heap _ C _ #[.int .i64 D, .int .i64 S, .bool T, .int .i64 P, .int .i64 V, .bool Q, .int .i64 N, .int .i64 0, .string X] _ _ hc'
          exact bodyPost_ret (v := .agg #[.int .i64 D, .int .i64 S, .bool T, .int .i64 P, .int .i64 V, .bool Q, .int .i64 N, .int .i64 0, .string X]) (results_cell_row Try.results39 _ _ C _ #[.int .i64 D, .int .i64 S, .bool T, .int .i64 P, .int .i64 V, .bool Q, .int .i64 N, .int .i64 0, .string X] _ _ rfl hg Try.underlying23 rfl info_frame) rfl ⟨rfl, K'.out.setRow HCW.out _⟩
  case steps1 =>
    refine LinSteps.cons (k := 0) ?_ (LinSteps.cons (k := 1) ?_ (LinSteps.cons (k := 2) ?_ (LinSteps.cons (k := 3) ?_ (LinSteps.cons (k := 4) ?_ (LinSteps.cons (k := 5) ?_ (LinSteps.cons (k := 6) ?_ (LinSteps.cons (k := 7) ?_ (LinSteps.nil))))))))
    · -- 0
      refine LinStep.plain rfl ?_
      intro QQ bb T ww hn hJ hd K HK
      have s0 := (hJ.oldSlot 0 (by kernel_rfl))
      simp only [List.getElem?_toArray, List.getElem?_cons_zero] at s0
      have G := hJ.keep
      clear hJ hd hn
      go_simp
      exact HK.out _ _ (Keep.refl _) rfl
    · -- 1
      refine LinStep.plain rfl ?_
      intro QQ bb T ww hn hJ hd K HK
      obtain ⟨x0, t0, f0⟩ := hJ.dep hd 0 5 (by kernel_rfl) (by kernel_rfl)
      obtain rfl : x0 = .string s := f0
      have G := hJ.keep
      clear hJ hd hn
      have h1 := HSA.out
      have h2 : (6 : Int) ≤ (s.size : Int) := by omega
      go_simp
      exact HK.out _ _ (Keep.refl _) rfl
    · -- 2
      refine LinStep.plain rfl ?_
      intro QQ bb T ww hn hJ hd K HK
      obtain ⟨x1, t1, f1⟩ := hJ.dep hd 1 6 (by kernel_rfl) (by kernel_rfl)
      obtain rfl : x1 = .string a6 := f1
      have G := hJ.keep
      clear hJ hd hn
      go_wp2_with (go_at_call 54; ((with_reducible refine (value_is a6 D _ ZA.out HVA).mono ?_); rintro e' w9 ⟨rfl, rfl⟩))
      exact HK.out _ _ (Keep.refl _) rfl
    · -- 3
      refine LinStep.plain rfl ?_
      intro QQ bb T ww hn hJ hd K HK
      have s0 := (hJ.oldSlot 0 (by kernel_rfl))
      simp only [List.getElem?_toArray, List.getElem?_cons_zero] at s0
      have G := hJ.keep
      clear hJ hd hn
      go_simp
      exact HK.out _ _ (Keep.refl _) rfl
    · -- 4
      refine LinStep.plain rfl ?_
      intro QQ bb T ww hn hJ hd K HK
      obtain ⟨x3, t3, f3⟩ := hJ.dep hd 3 8 (by kernel_rfl) (by kernel_rfl)
      obtain rfl : x3 = .string s := f3
      have G := hJ.keep
      clear hJ hd hn
      have h1 := HSB.out
      have h2 : (12 : Int) ≤ (s.size : Int) := by omega
      go_simp
      exact HK.out _ _ (Keep.refl _) rfl
    · -- 5
      refine LinStep.plain rfl ?_
      intro QQ bb T ww hn hJ hd K HK
      obtain ⟨x4, t4, f4⟩ := hJ.dep hd 4 9 (by kernel_rfl) (by kernel_rfl)
      obtain rfl : x4 = .string b6 := f4
      have G := hJ.keep
      clear hJ hd hn
      go_wp2_with (go_at_call 54; ((with_reducible refine (value_is b6 S _ ZB.out HVB).mono ?_); rintro e' w9 ⟨rfl, rfl⟩))
      exact HK.out _ _ (Keep.refl _) rfl
    · -- 6
      refine LinStep.plain rfl ?_
      intro QQ bb T ww hn hJ hd K HK
      obtain ⟨x2, t2, f2⟩ := hJ.dep hd 2 7 (by kernel_rfl) (by kernel_rfl)
      obtain rfl : x2 = .int .i64 D := f2
      obtain ⟨x5, t5, f5⟩ := hJ.dep hd 5 10 (by kernel_rfl) (by kernel_rfl)
      obtain rfl : x5 = .int .i64 S := f5
      have G := hJ.keep
      clear hJ hd hn
      go_simp
      exact HK.out _ _ (Keep.refl _) rfl
    · -- 7
      refine LinStep.plain rfl ?_
      intro QQ bb T ww hn hJ hd K HK
      have G := hJ.keep
      clear hJ hd hn
      go_simp
      exact HK.out _ _ ((Keep.refl _).alloc _) (⟨_, rfl, G.size, heap_alloc_new _ _⟩)
end Go.Proofs.Ytmgnmkdjphnaoaa
