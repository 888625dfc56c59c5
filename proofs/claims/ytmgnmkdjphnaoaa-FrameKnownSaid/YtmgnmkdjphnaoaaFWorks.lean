/- The chapter's examples: works of isochronlaw07 answers true. -/
import Derived.Test.YtmgnmkdjphnaoaaFSpec
import Derived.Test.YtmgnmkdjphnaoaaFCopy
import Derived.Deep.Cut
import Derived.Deep.DeepCutAuto
namespace Go.Proofs.Ytmgnmkdjphnaoaa
open Go Go.RowKit

def helloS : ByteArray := ⟨#[104, 101, 108, 108, 111]⟩
def helloH : ByteArray := ⟨#[0, 0, 0, 0, 0, 1, 0, 0, 0, 0, 0, 2, 8, 0, 104, 101, 108, 108, 111]⟩
def helloF : Frm := ⟨1, 2, false, 0, 0, false, 0, 2048, helloS⟩
theorem hello_hd : helloF.hd ++ helloF.data = helloH := by kernel_rfl
theorem hello_ok : helloF.ok = true := by kernel_rfl
theorem hello_size : helloF.enc.size = 64 := by rw [enc_sz]; kernel_rfl
theorem seal_head (u : ByteArray) (g : BitVec 32) : (sealG u g).extract 0 u.size = u := by
  unfold sealG
  apply bytes_ext
  have hl : u.size = u.data.toList.length := rfl
  rw [extract_list, ByteArray.data_append, List.drop_zero, Nat.sub_zero, Array.toList_append, hl, List.take_left]
theorem hello_head : helloF.enc.extract 0 60 = helloH ++ zeros 41 := by
  unfold Frm.enc
  rw [hello_hd]
  have e : pad helloH = helloH ++ zeros 41 := by kernel_rfl
  have z : (pad helloH).size = 60 := by kernel_rfl
  have := seal_head (pad helloH) 0#32
  rw [z] at this
  rw [this, e]
def paddedF : Frm := ⟨1, 2, false, 0, 0, false, 0, 2048, helloS ++ zeros 41⟩
def plainF : Frm := ⟨1, 2, false, 0, 0, false, 0, 0, helloS⟩
def taggedF : Frm := ⟨1, 2, true, 5, 3, true, 258, 2048, helloS⟩
theorem hello_long : helloF.long = paddedF := by
  unfold Frm.long
  rw [show helloF.hd.size + helloF.data.size = 19 by rw [hd_size]; rfl]
  rfl
theorem plain_ok : plainF.ok = true := by kernel_rfl
theorem plain_dec : decP plainF.enc = some plainF := by
  rw [dec_enc plain_ok]
  rfl
theorem hello_dec : decP helloF.enc = some paddedF := by rw [dec_enc hello_ok, hello_long]
theorem tagged_ok : taggedF.ok = true := by kernel_rfl
theorem tagged_size : taggedF.enc.size = 64 := by rw [enc_sz, hd_size]; rfl
theorem tagged_mid : taggedF.enc.extract 12 24 = ⟨#[129, 0, 160, 3, 241, 193, 0, 0, 1, 2, 8, 0]⟩ := by
  have e : (pad (taggedF.hd ++ taggedF.data)).extract 12 24 = ⟨#[129, 0, 160, 3, 241, 193, 0, 0, 1, 2, 8, 0]⟩ := by kernel_rfl
  have z : (pad (taggedF.hd ++ taggedF.data)).size = 60 := by kernel_rfl
  have := seal_head (pad (taggedF.hd ++ taggedF.data)) 0#32
  rw [z] at this
  rw [← e, ← this]
  exact (ext_ext _ 0 60 12 24 (by omega)).symm
theorem x1500_ok (x : ByteArray) (h : x.size = 1500) : Frm.ok ⟨1, 2, true, 0, 5, false, 0, 2048, x⟩ = true := by
  rw [ok_iff]
  unfold only
  dsimp only
  refine ⟨by omega, ⟨by simp, by simp, by simp⟩, by omega, ?_⟩
  rw [h]
  simp
theorem x1500_wire (x : ByteArray) (h : x.size = 1500) : Frm.wire ⟨1, 2, true, 0, 5, false, 0, 2048, x⟩ = 1542 := by
  unfold Frm.wire
  rw [x1500_ok x h, if_pos rfl, enc_sz, hd_size]
  dsimp only
  rw [h]
  rfl
def zeros64 : ByteArray := zeros 64
theorem zeros_bad : badB (repS 0 64) = true := bad_of (by kernel_rfl)
set_option maxRecDepth 1000000 in
set_option maxHeartbeats 8000000 in
theorem works_any (w : World) : Calls Try.prog 17 #[] w (Res (.bool true) w) := by
  obtain ⟨t0, ht0⟩ : ∃ t, helloF.enc = t := ⟨_, rfl⟩
  have z0 : t0.size = 64 := by rw [← ht0, hello_size]
  obtain ⟨h0, hh0⟩ : ∃ h, helloH ++ zeros 41 = h := ⟨_, rfl⟩
  have x0 : t0.extract 0 60 = h0 := by rw [← ht0, hello_head, hh0]
  obtain ⟨hx, hhx⟩ : ∃ x, helloS = x := ⟨_, rfl⟩
  have HTS : Hid (Frm.str ⟨1, 2, false, 0, 0, false, 0, 2048, hx⟩ = t0) := Lib.hid (by rw [← hhx]; exact (str_ok hello_ok).trans ht0)
  have HE : Hid (Frm.err ⟨1, 2, false, 0, 0, false, 0, 2048, hx⟩ = 0) := Lib.hid (by rw [← hhx]; exact err_ok hello_ok)
  have HOK : Hid (Frm.ok ⟨1, 2, false, 0, 0, false, 0, 2048, hx⟩ = true) := Lib.hid (by rw [← hhx]; exact hello_ok)
  have HW : Hid (Frm.wire ⟨1, 2, false, 0, 0, false, 0, 2048, hx⟩ = 84) := Lib.hid (by
    rw [← hhx]
    unfold Frm.wire
    rw [show Frm.ok ⟨1, 2, false, 0, 0, false, 0, 2048, helloS⟩ = true from hello_ok, if_pos rfl, show Frm.enc ⟨1, 2, false, 0, 0, false, 0, 2048, helloS⟩ = t0 from ht0, z0]
    rfl)
  have hq : ∀ w', Calls Try.prog 27 #[] w' (RetF ⟨1, 2, false, 0, 0, false, 0, 2048, hx⟩ w') := fun w' => by rw [← hhx]; exact hello_any w'
  have HQ := Lib.hid hq
  clear hq
  obtain ⟨z41, hz41⟩ : ∃ z, repS 0 41 = z := ⟨_, rfl⟩
  have HZ41 := Lib.hid hz41
  have z41s : z41.size = 41 := by rw [← hz41]; exact repS_size _ _
  have hcat : (⟨#[0, 0, 0, 0, 0, 1, 0, 0, 0, 0, 0, 2, 8, 0, 104, 101, 108, 108, 111]⟩ : ByteArray) ++ z41 = h0 := by rw [← hz41]; exact hh0
  have hzl : (⟨#[0, 0, 0, 0, 0, 1, 0, 0, 0, 0, 0, 2, 8, 0, 104, 101, 108, 108, 111]⟩ : ByteArray).size = 19 := rfl
  obtain ⟨x15, hx15⟩ : ∃ z, repS 120 1500 = z := ⟨_, rfl⟩
  have HX15 := Lib.hid hx15
  have x15s : x15.size = 1500 := by rw [← hx15]; exact repS_size _ _
  have HLO : Hid (Frm.ok ⟨1, 2, true, 0, 5, false, 0, 2048, x15⟩ = true) := Lib.hid (x1500_ok x15 x15s)
  have HLW : Hid (Frm.wire ⟨1, 2, true, 0, 5, false, 0, 2048, x15⟩ = 1542) := Lib.hid (x1500_wire x15 x15s)
  have hxs : hx.size = 5 := by rw [← hhx]; rfl
  obtain ⟨pd, hpd⟩ : ∃ z, hx ++ z41 = z := ⟨_, rfl⟩
  have hpd5 : (⟨#[104, 101, 108, 108, 111]⟩ : ByteArray) ++ z41 = pd := by rw [← hpd, ← hhx]; rfl
  have h5s : (⟨#[104, 101, 108, 108, 111]⟩ : ByteArray).size = 5 := rfl
  have HB1 : Hid (decP (Frm.enc ⟨1, 2, false, 0, 0, false, 0, 2048, hx⟩) = some ⟨1, 2, false, 0, 0, false, 0, 2048, pd⟩) := Lib.hid (by
    rw [← hpd, ← hhx, ← hz41]
    exact hello_dec)
  have HPO : Hid (Frm.ok ⟨1, 2, false, 0, 0, false, 0, 0, hx⟩ = true) := Lib.hid (by rw [← hhx]; exact plain_ok)
  have HB2 : Hid (decP (Frm.enc ⟨1, 2, false, 0, 0, false, 0, 0, hx⟩) = some ⟨1, 2, false, 0, 0, false, 0, 0, hx⟩) := Lib.hid (by rw [← hhx]; exact plain_dec)
  obtain ⟨t1, ht1⟩ : ∃ t, taggedF.enc = t := ⟨_, rfl⟩
  have t1s : t1.size = 64 := by rw [← ht1, tagged_size]
  have t1m : t1.extract 12 24 = ⟨#[129, 0, 160, 3, 241, 193, 0, 0, 1, 2, 8, 0]⟩ := by rw [← ht1, tagged_mid]
  have HT1 : Hid (Frm.str ⟨1, 2, true, 5, 3, true, 258, 2048, hx⟩ = t1) := Lib.hid (by rw [← hhx]; exact (str_ok tagged_ok).trans ht1)
  have HE1 : Hid (Frm.err ⟨1, 2, true, 5, 3, true, 258, 2048, hx⟩ = 0) := Lib.hid (by rw [← hhx]; exact err_ok tagged_ok)
  have HC1 : Hid (Frm.err ⟨1, 2, false, 0, 3, false, 0, 2048, hx⟩ = 170) := Lib.hid (by rw [← hhx]; kernel_rfl)
  have HC2 : Hid (Frm.err ⟨1, 2, false, 0, 0, false, 0, 100, hx⟩ = 170) := Lib.hid (by rw [← hhx]; kernel_rfl)
  have HC3 : Hid (Frm.err ⟨1, 2, false, 0, 0, false, 0, 33024, hx⟩ = 170) := Lib.hid (by rw [← hhx]; kernel_rfl)
  obtain ⟨z64, hz64⟩ : ∃ z, repS 0 64 = z := ⟨_, rfl⟩
  have HZ64 := Lib.hid hz64
  have HZB : Hid (badB z64 = true) := Lib.hid (by rw [← hz64]; exact zeros_bad)
  have HZM : Hid (z64.size ≤ maxLen) := Lib.hid (by rw [← hz64, repS_size]; decide)
  clear hh0 hz41 hx15 hpd ht1 hz64
  go_enter Try.func17, Try.ntmps17
  go_upto_region 2 with (go_at_call 27; ((with_reducible refine (HQ.out _).mono ?_); rintro e' w1 ⟨rfl, k1⟩))
  have hf : FrAt (w1.alloc (.cells #[.int .i64 1, .int .i64 2, .bool false, .int .i64 0, .int .i64 0, .bool false, .int .i64 0, .int .i64 2048, .string hx] 23)) w1.heap.size 1 2 false 0 0 false 0 2048 hx := heap_alloc_new w1 _
  have K := Lib.hid (k1.alloc (.cells #[.int .i64 1, .int .i64 2, .bool false, .int .i64 0, .int .i64 0, .bool false, .int .i64 0, .int .i64 2048, .string hx] 23))
  clear k1
  generalize (w1.alloc (.cells #[.int .i64 1, .int .i64 2, .bool false, .int .i64 0, .int .i64 0, .bool false, .int .i64 0, .int .i64 2048, .string hx] 23)) = w2 at *
  generalize w1.heap.size = F at *
  obtain ⟨c0, c1, c2, c3, c4, c5, c6, c7, c8⟩ := fr_cells hf
  go_upto_region 5 with (first | (go_at_call 11; ((with_reducible refine (encode_is 1 2 0 0 0 2048 false false hx t0 0 _ HTS HE).mono ?_); rintro e' w3 ⟨rfl, k3⟩)) | (go_at_call 21; ((with_reducible refine (rep_is 0 41 41 z41 _ (by omega) rfl HZ41).mono ?_); rintro e' w4 ⟨rfl, k4⟩)))
  have hf4 := fr_k (fr_k hf k3) k4
  have K4 := Lib.hid ((K.out.trans k3).trans k4)
  clear hf K k3 k4 c0 c1 c2 c3 c4 c5 c6 c7 c8
  obtain ⟨c0, c1, c2, c3, c4, c5, c6, c7, c8⟩ := fr_cells hf4
  go_upto_region 7 with (go_at_call 28; ((with_reducible refine (size_is 1 2 0 0 0 2048 false false hx 84 _ HOK HW).mono ?_); rintro e' w5 ⟨rfl, k5⟩))
  have hf5 := fr_k hf4 k5
  have K5 := Lib.hid (K4.out.trans k5)
  clear hf4 K4 k5 c0 c1 c2 c3 c4 c5 c6 c7 c8
  obtain ⟨c0, c1, c2, c3, c4, c5, c6, c7, c8⟩ := fr_cells hf5
  refine region_copy (W0 := w5) (CopF 4 #[.int .i64 1, .int .i64 2, .bool false, .int .i64 0, .int .i64 0, .bool false, .int .i64 0, .int .i64 2048, .string hx]) (CopG w5 4 (fun i => 6 + i) #[.int .i64 1, .int .i64 2, .bool false, .int .i64 0, .int .i64 0, .bool false, .int .i64 0, .int .i64 2048, .string hx]) (by kernel_rfl) (by kernel_rfl) (by kernel_rfl) (by kernel_rfl) (Keep.refl _) ⟨fun _ => 0, ⟨fun _ _ h => h.elim, fun _ _ h => h.elim, fun _ _ h => h.elim, fun _ _ h => h.elim, fun _ _ _ _ _ h => h.elim⟩⟩ ?doneC ?stepsC
  case stepsC =>
    exact ⟨copy_load (tF := 1) (F0 := F) 0 _ 42 (by decide) rfl rfl rfl (by intro i hi; omega) (by kernel_rfl) rfl hf5 rfl, copy_load (tF := 1) (F0 := F) 1 _ 43 (by decide) rfl rfl rfl (by intro i hi; omega) (by kernel_rfl) rfl hf5 rfl, copy_load (tF := 1) (F0 := F) 2 _ 44 (by decide) rfl rfl rfl (by intro i hi; omega) (by kernel_rfl) rfl hf5 rfl, copy_load (tF := 1) (F0 := F) 3 _ 45 (by decide) rfl rfl rfl (by intro i hi; omega) (by kernel_rfl) rfl hf5 rfl, copy_alloc 4 0 _ (by decide) rfl rfl rfl rfl (by intro i hi hne; omega), copy_alloc 5 1 _ (by decide) rfl rfl rfl rfl (by intro i hi hne; omega), copy_alloc 6 2 _ (by decide) rfl rfl rfl rfl (by intro i hi hne; omega), copy_alloc 7 3 _ (by decide) rfl rfl rfl rfl (by intro i hi hne; omega), copy_store 8 0 42 _ (by decide) rfl rfl rfl rfl (by kernel_rfl) (by kernel_rfl) (by kernel_rfl) rfl (fr_one _ _ _ _ _ _ _ _ _), copy_store 9 1 43 _ (by decide) rfl rfl rfl rfl (by kernel_rfl) (by kernel_rfl) (by kernel_rfl) rfl (fr_one _ _ _ _ _ _ _ _ _), copy_store 10 2 44 _ (by decide) rfl rfl rfl rfl (by kernel_rfl) (by kernel_rfl) (by kernel_rfl) rfl (fr_one _ _ _ _ _ _ _ _ _), copy_store 11 3 45 _ (by decide) rfl rfl rfl rfl (by kernel_rfl) (by kernel_rfl) (by kernel_rfl) rfl (fr_one _ _ _ _ _ _ _ _ _), trivial⟩
  case doneC =>
    rintro bb Tz wz hJ hb ⟨own, cc⟩
    obtain ⟨x0, t0, g0⟩ := hJ.fact 0 42 (by decide) (by kernel_rfl)
    obtain rfl := g0.1 (by decide)
    obtain ⟨x1, t1, g1⟩ := hJ.fact 1 43 (by decide) (by kernel_rfl)
    obtain rfl := g1.1 (by decide)
    obtain ⟨x2, t2, g2⟩ := hJ.fact 2 44 (by decide) (by kernel_rfl)
    obtain rfl := g2.1 (by decide)
    obtain ⟨x3, t3, g3⟩ := hJ.fact 3 45 (by decide) (by kernel_rfl)
    obtain rfl := g3.1 (by decide)
    have q0 : Tz[6]? = some (.pointer (some ⟨own 0, 0, none⟩)) := cc.ptr 0 (by decide) (hb _ (by decide))
    have r0 := (cc.row 0 (by decide) (hb _ (by decide))).2
    have s0 := cc.new 0 (by decide) (hb _ (by decide))
    have q1 : Tz[7]? = some (.pointer (some ⟨own 1, 0, none⟩)) := cc.ptr 1 (by decide) (hb _ (by decide))
    have r1 := (cc.row 1 (by decide) (hb _ (by decide))).2
    have s1 := cc.new 1 (by decide) (hb _ (by decide))
    have q2 : Tz[8]? = some (.pointer (some ⟨own 2, 0, none⟩)) := cc.ptr 2 (by decide) (hb _ (by decide))
    have r2 := (cc.row 2 (by decide) (hb _ (by decide))).2
    have s2 := cc.new 2 (by decide) (hb _ (by decide))
    have q3 : Tz[9]? = some (.pointer (some ⟨own 3, 0, none⟩)) := cc.ptr 3 (by decide) (hb _ (by decide))
    have r3 := (cc.row 3 (by decide) (hb _ (by decide))).2
    have s3 := cc.new 3 (by decide) (hb _ (by decide))
    have a01 := cc.apart 0 1 (by decide) (by decide) (by decide) (hb _ (by decide)) (hb _ (by decide))
    have a02 := cc.apart 0 2 (by decide) (by decide) (by decide) (hb _ (by decide)) (hb _ (by decide))
    have a03 := cc.apart 0 3 (by decide) (by decide) (by decide) (hb _ (by decide)) (hb _ (by decide))
    have a12 := cc.apart 1 2 (by decide) (by decide) (by decide) (hb _ (by decide)) (hb _ (by decide))
    have a13 := cc.apart 1 3 (by decide) (by decide) (by decide) (hb _ (by decide)) (hb _ (by decide))
    have a23 := cc.apart 2 3 (by decide) (by decide) (by decide) (hb _ (by decide)) (hb _ (by decide))
    have hfr := hJ.frame [(42, .agg #[.int .i64 1, .int .i64 2, .bool false, .int .i64 0, .int .i64 0, .bool false, .int .i64 0, .int .i64 2048, .string hx]), (43, .agg #[.int .i64 1, .int .i64 2, .bool false, .int .i64 0, .int .i64 0, .bool false, .int .i64 0, .int .i64 2048, .string hx]), (44, .agg #[.int .i64 1, .int .i64 2, .bool false, .int .i64 0, .int .i64 0, .bool false, .int .i64 0, .int .i64 2048, .string hx]), (45, .agg #[.int .i64 1, .int .i64 2, .bool false, .int .i64 0, .int .i64 0, .bool false, .int .i64 0, .int .i64 2048, .string hx]), (6, .pointer (some ⟨own 0, 0, none⟩)), (7, .pointer (some ⟨own 1, 0, none⟩)), (8, .pointer (some ⟨own 2, 0, none⟩)), (9, .pointer (some ⟨own 3, 0, none⟩))] (by simp [t0, t1, t2, t3, q0, q1, q2, q3]) (by kernel_rfl)
    have G := hJ.keep
    clear hJ cc hb t0 g0 t1 g1 t2 g2 t3 g3 q0 q1 q2 q3
    rw [hfr]
    clear hfr Tz
    simp only [List.foldl_cons, List.foldl_nil, List.setIfInBounds_toArray, List.set_cons_zero, List.set_cons_succ]
    obtain ⟨B6, hB6⟩ : ∃ B, own 0 = B := ⟨_, rfl⟩
    rw [hB6] at r0 s0 a01 a02 a03 ⊢
    obtain ⟨B7, hB7⟩ : ∃ B, own 1 = B := ⟨_, rfl⟩
    rw [hB7] at r1 s1 a01 a12 a13 ⊢
    obtain ⟨B8, hB8⟩ : ∃ B, own 2 = B := ⟨_, rfl⟩
    rw [hB8] at r2 s2 a02 a12 a23 ⊢
    obtain ⟨B9, hB9⟩ : ∃ B, own 3 = B := ⟨_, rfl⟩
    rw [hB9] at r3 s3 a03 a13 a23 ⊢
    clear hB6 hB7 hB8 hB9 own
    have K6 := Lib.hid (K5.out.trans G)
    have hf6 := fr_k hf5 G
    have hFl := heap_lt hf5
    have HN6 : Hid (B6 ≠ B7 ∧ B6 ≠ B8 ∧ B6 ≠ B9 ∧ B7 ≠ B8 ∧ B7 ≠ B9 ∧ B8 ≠ B9 ∧ F ≠ B6 ∧ F ≠ B7 ∧ F ≠ B8 ∧ F ≠ B9) := Lib.hid ⟨a01, a02, a03, a12, a13, a23, by omega, by omega, by omega, by omega⟩
    have HW6 : Hid (w.heap.size ≤ B6 ∧ w.heap.size ≤ B7 ∧ w.heap.size ≤ B8 ∧ w.heap.size ≤ B9) := Lib.hid (by have := K5.out.size; omega)
    have h6 : FrAt wz B6 1 2 false 0 0 false 0 2048 hx := r0
    have h7 : FrAt wz B7 1 2 false 0 0 false 0 2048 hx := r1
    have h8 : FrAt wz B8 1 2 false 0 0 false 0 2048 hx := r2
    have h9 : FrAt wz B9 1 2 false 0 0 false 0 2048 hx := r3
    clear r0 r1 r2 r3 s0 s1 s2 s3 a01 a02 a03 a12 a13 a23 K5 hf5 hFl G c0 c1 c2 c3 c4 c5 c6 c7 c8
    obtain ⟨n67, n68, n69, n78, n79, n89, nF6, nF7, nF8, nF9⟩ := HN6.out
    go_upto_region 9 with (go_at_call 21; ((with_reducible refine (rep_is 120 1500 1500 x15 _ (by omega) rfl HX15).mono ?_); rintro e' w7 ⟨rfl, k7⟩; have h6 := fr_k h6 k7; obtain ⟨-, -, b2, -, b4, -, -, -, b8⟩ := fr_cells h6; have g2 := fr_free h6 2; have g4 := fr_free h6 4; have g8 := fr_free h6 8))
    replace h7 := fr_k h7 k7
    replace h8 := fr_k h8 k7
    replace h9 := fr_k h9 k7
    replace hf6 := fr_k hf6 k7
    have K7 := Lib.hid (K6.out.trans k7)
    have hkx := ((keepX_set w7 B6 8 (.string x15)).trans (keepX_set _ B6 2 (.bool true))).trans (keepX_set _ B6 4 (.int .i64 5))
    have i6 : FrAt (((w7.setCell ⟨B6, 8, none⟩ (.string x15)).setCell ⟨B6, 2, none⟩ (.bool true)).setCell ⟨B6, 4, none⟩ (.int .i64 5)) B6 1 2 true 0 5 false 0 2048 x15 := heap_setCell_same _ _ _ _ _ _ (heap_setCell_same _ _ _ _ _ _ (heap_setCell_same _ _ _ _ _ _ h6))
    replace h7 := fr_x h7 hkx (fun c => n67 c.symm)
    replace h8 := fr_x h8 hkx (fun c => n68 c.symm)
    replace h9 := fr_x h9 hkx (fun c => n69 c.symm)
    replace hf6 := fr_x hf6 hkx nF6
    have K8 := Lib.hid (K7.out.byX hkx HW6.out.1)
    clear hkx b2 b4 b8 g2 g4 g8 h6 K6 K7 k7
    generalize (((w7.setCell ⟨B6, 8, none⟩ (.string x15)).setCell ⟨B6, 2, none⟩ (.bool true)).setCell ⟨B6, 4, none⟩ (.int .i64 5)) = w8 at *
    obtain ⟨-, -, -, -, -, -, -, -, b8⟩ := fr_cells h7
    have g8 := fr_free h7 8
    go_upto_region 10 with fail
    have hkx := keepX_set w8 B7 8 (.string pd)
    replace h7 := fr_data h7 pd
    replace i6 := fr_x i6 hkx n67
    replace h8 := fr_x h8 hkx (fun c => n78 c.symm)
    replace h9 := fr_x h9 hkx (fun c => n79 c.symm)
    replace hf6 := fr_x hf6 hkx nF7
    have K9 := Lib.hid (K8.out.byX hkx HW6.out.2.1)
    clear hkx b8 g8 K8
    generalize w8.setCell ⟨B7, 8, none⟩ (.string pd) = w9 at *
    obtain ⟨-, -, -, -, -, -, -, b7, -⟩ := fr_cells h8
    have g7 := fr_free h8 7
    go_upto_region 11 with fail
    have hkx := keepX_set w9 B8 7 (.int .i64 0)
    replace h8 := fr_kind h8 0
    replace i6 := fr_x i6 hkx n68
    replace h7 := fr_x h7 hkx n78
    replace h9 := fr_x h9 hkx (fun c => n89 c.symm)
    replace hf6 := fr_x hf6 hkx nF8
    have K10 := Lib.hid (K9.out.byX hkx HW6.out.2.2.1)
    clear hkx b7 g7 K9
    generalize w9.setCell ⟨B8, 7, none⟩ (.int .i64 0) = w10 at *
    obtain ⟨-, -, b2, b3, b4, b5, b6, -, -⟩ := fr_cells h9
    have g2 := fr_free h9 2
    have g3 := fr_free h9 3
    have g4 := fr_free h9 4
    have g5 := fr_free h9 5
    have g6 := fr_free h9 6
    go_upto_region 12 with fail
    have hkx := (keepX_tag w10 B9 5 3).trans (keepX_seq _ B9 258)
    have j9 := fr_seq (fr_tag h9 5 3) 258
    replace i6 := fr_x i6 hkx n69
    replace h7 := fr_x h7 hkx n79
    replace h8 := fr_x h8 hkx n89
    replace hf6 := fr_x hf6 hkx nF9
    have K11 := Lib.hid (K10.out.byX hkx HW6.out.2.2.2)
    clear hkx b2 b3 b4 b5 b6 g2 g3 g4 g5 g6 K10 h9
    generalize (((((w10.setCell ⟨B9, 2, none⟩ (.bool true)).setCell ⟨B9, 3, none⟩ (.int .i64 5)).setCell ⟨B9, 4, none⟩ (.int .i64 3)).setCell ⟨B9, 5, none⟩ (.bool true)).setCell ⟨B9, 6, none⟩ (.int .i64 258)) = w11 at *
    clear n67 n68 n69 n78 n79 n89 nF6 nF7 nF8 nF9 x0 z0 hcat hzl
    obtain ⟨c0, c1, c2, c3, c4, c5, c6, c7, c8⟩ := fr_cells j9
    go_upto_region 13 with (go_at_call 11; ((with_reducible refine (encode_is 1 2 5 3 258 2048 true true hx t1 0 _ HT1 HE1).mono ?_); rintro e' w12 ⟨rfl, k12⟩))
    clear c0 c1 c2 c3 c4 c5 c6 c7 c8 j9
    replace i6 := fr_k i6 k12
    replace h7 := fr_k h7 k12
    replace h8 := fr_k h8 k12
    replace hf6 := fr_k hf6 k12
    have K12 := Lib.hid (K11.out.trans k12)
    clear K11 k12
    obtain ⟨c0, c1, c2, c3, c4, c5, c6, c7, c8⟩ := fr_cells i6
    go_upto_region 15 with (first | (go_at_call 28; ((with_reducible refine (size_is 1 2 0 5 0 2048 true false x15 1542 _ HLO HLW).mono ?_); rintro e' w13 ⟨rfl, k13⟩; have h7 := fr_k h7 k13; have h8 := fr_k h8 k13; have hf6 := fr_k hf6 k13; clear c0 c1 c2 c3 c4 c5 c6 c7 c8; obtain ⟨c0, c1, c2, c3, c4, c5, c6, c7, c8⟩ := fr_cells hf6; obtain ⟨d0, d1, d2, d3, d4, d5, d6, d7, d8⟩ := fr_cells h7)) | (go_at_call 23; ((with_reducible refine (back_is 1 2 0 0 0 2048 false false hx _ 1 2 0 0 0 2048 false false pd HOK HB1).mono ?_); rintro e' w14 ⟨rfl, k14⟩; have h8 := fr_k h8 k14; have hf6 := fr_k hf6 k14; clear c0 c1 c2 c3 c4 c5 c6 c7 c8 d0 d1 d2 d3 d4 d5 d6 d7 d8; obtain ⟨c0, c1, c2, c3, c4, c5, c6, c7, c8⟩ := fr_cells h8)) | (go_at_call 23; ((with_reducible refine (back_is 1 2 0 0 0 0 false false hx _ 1 2 0 0 0 0 false false hx HPO HB2).mono ?_); rintro e' w15 ⟨rfl, k15⟩; have hf6 := fr_k hf6 k15)))
    have K15 := Lib.hid (((K12.out.trans k13).trans k14).trans k15)
    have hf5 := hf6
    clear K12 k13 k14 k15 c0 c1 c2 c3 c4 c5 c6 c7 c8 i6 h7 h8 hf6 HB1 HB2 HLO HLW HT1 HE1 t1s t1m
    refine region_copy (W0 := w15) (CopF 3 #[.int .i64 1, .int .i64 2, .bool false, .int .i64 0, .int .i64 0, .bool false, .int .i64 0, .int .i64 2048, .string hx]) (CopG w15 3 (fun i => 12 + i) #[.int .i64 1, .int .i64 2, .bool false, .int .i64 0, .int .i64 0, .bool false, .int .i64 0, .int .i64 2048, .string hx]) (by kernel_rfl) (by kernel_rfl) (by kernel_rfl) (by kernel_rfl) (Keep.refl _) ⟨fun _ => 0, ⟨fun _ _ h => h.elim, fun _ _ h => h.elim, fun _ _ h => h.elim, fun _ _ h => h.elim, fun _ _ _ _ _ h => h.elim⟩⟩ ?doneD ?stepsD
    case stepsD =>
      exact ⟨copy_load (tF := 1) (F0 := F) 0 _ 93 (by decide) rfl rfl rfl (by intro i hi; omega) (by kernel_rfl) rfl hf5 rfl, copy_load (tF := 1) (F0 := F) 1 _ 94 (by decide) rfl rfl rfl (by intro i hi; omega) (by kernel_rfl) rfl hf5 rfl, copy_load (tF := 1) (F0 := F) 2 _ 95 (by decide) rfl rfl rfl (by intro i hi; omega) (by kernel_rfl) rfl hf5 rfl, copy_alloc 3 0 _ (by decide) rfl rfl rfl rfl (by intro i hi hne; omega), copy_alloc 4 1 _ (by decide) rfl rfl rfl rfl (by intro i hi hne; omega), copy_alloc 5 2 _ (by decide) rfl rfl rfl rfl (by intro i hi hne; omega), copy_store 6 0 93 _ (by decide) rfl rfl rfl rfl (by kernel_rfl) (by kernel_rfl) (by kernel_rfl) rfl (fr_one _ _ _ _ _ _ _ _ _), copy_store 7 1 94 _ (by decide) rfl rfl rfl rfl (by kernel_rfl) (by kernel_rfl) (by kernel_rfl) rfl (fr_one _ _ _ _ _ _ _ _ _), copy_store 8 2 95 _ (by decide) rfl rfl rfl rfl (by kernel_rfl) (by kernel_rfl) (by kernel_rfl) rfl (fr_one _ _ _ _ _ _ _ _ _), trivial⟩
    case doneD =>
      rintro bb Tz wz hJ hb ⟨own, cc⟩
      obtain ⟨x0, t0, g0⟩ := hJ.fact 0 93 (by decide) (by kernel_rfl)
      obtain rfl := g0.1 (by decide)
      obtain ⟨x1, t1, g1⟩ := hJ.fact 1 94 (by decide) (by kernel_rfl)
      obtain rfl := g1.1 (by decide)
      obtain ⟨x2, t2, g2⟩ := hJ.fact 2 95 (by decide) (by kernel_rfl)
      obtain rfl := g2.1 (by decide)
      have q0 : Tz[12]? = some (.pointer (some ⟨own 0, 0, none⟩)) := cc.ptr 0 (by decide) (hb _ (by decide))
      have r0 := (cc.row 0 (by decide) (hb _ (by decide))).2
      have s0 := cc.new 0 (by decide) (hb _ (by decide))
      have q1 : Tz[13]? = some (.pointer (some ⟨own 1, 0, none⟩)) := cc.ptr 1 (by decide) (hb _ (by decide))
      have r1 := (cc.row 1 (by decide) (hb _ (by decide))).2
      have s1 := cc.new 1 (by decide) (hb _ (by decide))
      have q2 : Tz[14]? = some (.pointer (some ⟨own 2, 0, none⟩)) := cc.ptr 2 (by decide) (hb _ (by decide))
      have r2 := (cc.row 2 (by decide) (hb _ (by decide))).2
      have s2 := cc.new 2 (by decide) (hb _ (by decide))
      have a01 := cc.apart 0 1 (by decide) (by decide) (by decide) (hb _ (by decide)) (hb _ (by decide))
      have a02 := cc.apart 0 2 (by decide) (by decide) (by decide) (hb _ (by decide)) (hb _ (by decide))
      have a12 := cc.apart 1 2 (by decide) (by decide) (by decide) (hb _ (by decide)) (hb _ (by decide))
      have hfr := hJ.frame [(93, .agg #[.int .i64 1, .int .i64 2, .bool false, .int .i64 0, .int .i64 0, .bool false, .int .i64 0, .int .i64 2048, .string hx]), (94, .agg #[.int .i64 1, .int .i64 2, .bool false, .int .i64 0, .int .i64 0, .bool false, .int .i64 0, .int .i64 2048, .string hx]), (95, .agg #[.int .i64 1, .int .i64 2, .bool false, .int .i64 0, .int .i64 0, .bool false, .int .i64 0, .int .i64 2048, .string hx]), (12, .pointer (some ⟨own 0, 0, none⟩)), (13, .pointer (some ⟨own 1, 0, none⟩)), (14, .pointer (some ⟨own 2, 0, none⟩))] (by simp [t0, t1, t2, q0, q1, q2]) (by kernel_rfl)
      have G := hJ.keep
      clear hJ cc hb t0 g0 t1 g1 t2 g2 q0 q1 q2
      rw [hfr]
      clear hfr Tz
      simp only [List.foldl_cons, List.foldl_nil, List.setIfInBounds_toArray, List.set_cons_zero, List.set_cons_succ]
      obtain ⟨B12, hB12⟩ : ∃ B, own 0 = B := ⟨_, rfl⟩
      rw [hB12] at r0 s0 a01 a02 ⊢
      obtain ⟨B13, hB13⟩ : ∃ B, own 1 = B := ⟨_, rfl⟩
      rw [hB13] at r1 s1 a01 a12 ⊢
      obtain ⟨B14, hB14⟩ : ∃ B, own 2 = B := ⟨_, rfl⟩
      rw [hB14] at r2 s2 a02 a12 ⊢
      clear hB12 hB13 hB14 own
      have K16 := Lib.hid (K15.out.trans G)
      have HN : Hid (B12 ≠ B13 ∧ B12 ≠ B14 ∧ B13 ≠ B14) := Lib.hid ⟨a01, a02, a12⟩
      have HW : Hid (w.heap.size ≤ B12 ∧ w.heap.size ≤ B13 ∧ w.heap.size ≤ B14) := Lib.hid (by have := K15.out.size; omega)
      have h12 : FrAt wz B12 1 2 false 0 0 false 0 2048 hx := r0
      have h13 : FrAt wz B13 1 2 false 0 0 false 0 2048 hx := r1
      have h14 : FrAt wz B14 1 2 false 0 0 false 0 2048 hx := r2
      clear r0 r1 r2 s0 s1 s2 K15 hf5 G
      obtain ⟨-, -, -, -, b4, -, -, -, -⟩ := fr_cells h12
      obtain ⟨-, -, -, -, -, -, -, b7, -⟩ := fr_cells h13
      obtain ⟨-, -, -, -, -, -, -, d7, -⟩ := fr_cells h14
      have g4 := fr_free h12 4
      have g7 := fr_free h13 7
      have e7 := fr_free h14 7
      have a10 : B13 ≠ B12 := fun c => a01 c.symm
      have a20 : B14 ≠ B12 := fun c => a02 c.symm
      have a21 : B14 ≠ B13 := fun c => a12 c.symm
      go_upto_region 17 with fail
      have x12 := keepX_set wz B12 4 (.int .i64 3)
      have x13 := keepX_set (wz.setCell ⟨B12, 4, none⟩ (.int .i64 3)) B13 7 (.int .i64 100)
      have x14 := keepX_set ((wz.setCell ⟨B12, 4, none⟩ (.int .i64 3)).setCell ⟨B13, 7, none⟩ (.int .i64 100)) B14 7 (.int .i64 33024)
      have i12 : FrAt (wz.setCell ⟨B12, 4, none⟩ (.int .i64 3)) B12 1 2 false 0 3 false 0 2048 hx := heap_setCell_same _ _ _ _ _ _ h12
      replace i12 := fr_x (fr_x i12 x13 a01) x14 a02
      have i13 := fr_kind (fr_x h13 x12 a10) 100
      replace i13 := fr_x i13 x14 a12
      have i14 := fr_kind (fr_x (fr_x h14 x12 a20) x13 a21) 33024
      have K17 := Lib.hid (((K16.out.byX x12 HW.out.1).byX x13 HW.out.2.1).byX x14 HW.out.2.2)
      clear x12 x13 x14 h12 h13 h14 K16 b4 b7 d7 g4 g7 e7 a01 a02 a12 a10 a20 a21
      generalize (((wz.setCell ⟨B12, 4, none⟩ (.int .i64 3)).setCell ⟨B13, 7, none⟩ (.int .i64 100)).setCell ⟨B14, 7, none⟩ (.int .i64 33024)) = w17 at *
      obtain ⟨c0, c1, c2, c3, c4, c5, c6, c7, c8⟩ := fr_cells i12
      go_wp2_with (first | (go_at_call 15; ((with_reducible refine (check_is 1 2 0 3 0 2048 false false hx 170 _ HC1).mono ?_); rintro e' w18 ⟨rfl, k18⟩; have i13 := fr_k i13 k18; have i14 := fr_k i14 k18; clear c0 c1 c2 c3 c4 c5 c6 c7 c8; obtain ⟨c0, c1, c2, c3, c4, c5, c6, c7, c8⟩ := fr_cells i13)) | (go_at_call 15; ((with_reducible refine (check_is 1 2 0 0 0 100 false false hx 170 _ HC2).mono ?_); rintro e' w19 ⟨rfl, k19⟩; have i14 := fr_k i14 k19; clear c0 c1 c2 c3 c4 c5 c6 c7 c8; obtain ⟨c0, c1, c2, c3, c4, c5, c6, c7, c8⟩ := fr_cells i14)) | (go_at_call 15; ((with_reducible refine (check_is 1 2 0 0 0 33024 false false hx 170 _ HC3).mono ?_); rintro e' w20 ⟨rfl, k20⟩)) | (go_at_call 21; ((with_reducible refine (rep_is 0 64 64 z64 _ (by omega) rfl HZ64).mono ?_); rintro e' w21 ⟨rfl, k21⟩)) | (go_at_call 25; ((with_reducible refine (malformed_is z64 true _ HZM.out HZB).mono ?_); rintro e' w22 ⟨rfl, k22⟩)))
      go_ret
      exact ⟨rfl, ((((K17.out.trans k18).trans k19).trans k20).trans k21).trans k22⟩
end Go.Proofs.Ytmgnmkdjphnaoaa
