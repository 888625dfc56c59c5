/- FrameKnown answers true. -/
import Derived.Test.YtmgnmkdjphnaoaaFKnIx
import Derived.Test.YtmgnmkdjphnaoaaFArr
import Derived.Test.YtmgnmkdjphnaoaaFWorks
import Derived.Test.YtmgnmkdjphnaoaaTail
import Derived.Deep.Cut
import Derived.Deep.DeepCutAuto
namespace Go.Proofs.Ytmgnmkdjphnaoaa
open Go Go.RowKit

def zf : Frm := ⟨0, 0, false, 0, 0, false, 0, 0, ⟨#[]⟩⟩
set_option maxRecDepth 1000000 in
set_option maxHeartbeats 8000000 in
theorem lawKnown_any (w : World) : Calls Try.prog 8 #[] w (Res (.bool true) w) := by
  obtain ⟨hx, hhx⟩ : ∃ x, (⟨#[104, 101, 108, 108, 111]⟩ : ByteArray) = x := ⟨_, rfl⟩
  have hq : ∀ w', Calls Try.prog 27 #[] w' (RetF ⟨1, 2, false, 0, 0, false, 0, 2048, hx⟩ w') := fun w' => by rw [← hhx]; exact hello_any w'
  have HQ := Lib.hid hq
  clear hq
  go_enter Try.func8, Try.ntmps8
  go_upto_region 2 with (go_at_call 27; ((with_reducible refine (HQ.out _).mono ?_); rintro e' w1 ⟨rfl, k1⟩))
  have hF : FrAt (w1.alloc (.cells #[.int .i64 1, .int .i64 2, .bool false, .int .i64 0, .int .i64 0, .bool false, .int .i64 0, .int .i64 2048, .string hx] 23)) w1.heap.size 1 2 false 0 0 false 0 2048 hx := heap_alloc_new w1 _
  have K1 := Lib.hid (k1.alloc (.cells #[.int .i64 1, .int .i64 2, .bool false, .int .i64 0, .int .i64 0, .bool false, .int .i64 0, .int .i64 2048, .string hx] 23))
  clear k1
  generalize w1.alloc (.cells #[.int .i64 1, .int .i64 2, .bool false, .int .i64 0, .int .i64 0, .bool false, .int .i64 0, .int .i64 2048, .string hx] 23) = w2 at *
  generalize w1.heap.size = F at *
  go_upto_region 3 with fail
  have hA : ArrAt (w2.alloc (.cells Try.zeroCells54 54)) w2.heap.size (fun _ => zf) := by
    have e : (arrL fun _ => zf).toArray = Try.zeroCells54 := by kernel_rfl
    unfold ArrAt
    rw [e]
    exact heap_alloc_new w2 _
  have hF2 := fr_k hF ((Keep.refl w2).alloc (.cells Try.zeroCells54 54))
  have K2 := Lib.hid (K1.out.alloc (.cells Try.zeroCells54 54))
  have HNE : Hid (F ≠ w2.heap.size ∧ w.heap.size ≤ w2.heap.size) := Lib.hid ⟨by have := heap_lt hF; omega, K1.out.size⟩
  clear hF K1
  generalize w2.alloc (.cells Try.zeroCells54 54) = w3 at *
  generalize w2.heap.size = B at *
  obtain ⟨f, hf⟩ : ∃ f : Frm, f = ⟨1, 2, false, 0, 0, false, 0, 2048, hx⟩ := ⟨_, rfl⟩
  have HFE := Lib.hid hf
  clear hf
  have HA0 : Hid (ArrAt w3 B (fill f zf 0)) := Lib.hid (arr_congr hA fun i _ => (fill_zero f zf i).symm)
  have HF2 := Lib.hid hF2
  clear hA hF2
  go_wp2_with fail
  go_loopw [3] (fun v wr => ∃ i : Nat, i ≤ 12 ∧ v = .int .i64 i ∧ Hid (ArrAt wr B (fill f zf i)) ∧ Hid (FrAt wr F 1 2 false 0 0 false 0 2048 hx) ∧ Hid (Keep w wr)) (fun v _ => 12 - (intOf v).toNat)
  case atStart => exact ⟨0, by omega, rfl, HA0, HF2, K2⟩
  case round =>
    obtain ⟨i, hi, rfl, HAr, HFr, HKr⟩ := hrel
    clear HA0 HF2 K2
    by_cases hlt : i < 12
    · have hA := HAr.out
      have hFr := HFr.out
      go_upto_region 6 with fail
      go_wp2_with (first | (refine wpList_load_row rfl 23 _ rfl F rfl 23 #[.int .i64 1, .int .i64 2, .bool false, .int .i64 0, .int .i64 0, .bool false, .int .i64 0, .int .i64 2048, .string hx] (0, 0) _ hFr Try.underlying23 rfl info_frame ?_) | (refine wpList_store_arr rfl 23 _ _ rfl B (i * 9) (fill f zf i) i f hA hlt (by omega) rfl (by rw [HFE.out]; rfl) info_frame ?_))
      have hA2 := arr_congr (arr_setRow hA i f) fun j _ => fill_step f zf i j
      go_roundw
      case rel => exact ⟨i + 1, by omega, by go_num, Lib.hid hA2, Lib.hid (keepRowX (setRow_other _ B F _ HNE.out.1) hFr), Lib.hid (HKr.out.setRow HNE.out.2 _)⟩
      case measure => simp [intOf]; omega
    · obtain rfl : i = 12 := by omega
      clear hlt hi
      have hA : ArrAt wr B (fun _ => knB hx) := arr_congr HAr.out fun j hj => (fill_all f zf j hj).trans HFE.out
      have K := HKr.out
      clear HAr HFr HKr HQ
      have c0 : wr.cell? ⟨B, 0, none⟩ = some (.int .i64 1) := (cell_of_row wr B 0 _ _ _ hA).trans (by kernel_rfl)
      have f0 : wr.frozen? ⟨B, 0, none⟩ = false := frozen_of_row wr B 0 _ _ hA
      have c9 : wr.cell? ⟨B, 9, none⟩ = some (.int .i64 1) := (cell_of_row wr B 9 _ _ _ hA).trans (by kernel_rfl)
      have f9 : wr.frozen? ⟨B, 9, none⟩ = false := frozen_of_row wr B 9 _ _ hA
      have c19 : wr.cell? ⟨B, 19, none⟩ = some (.int .i64 2) := (cell_of_row wr B 19 _ _ _ hA).trans (by kernel_rfl)
      have f19 : wr.frozen? ⟨B, 19, none⟩ = false := frozen_of_row wr B 19 _ _ hA
      have c34 : wr.cell? ⟨B, 34, none⟩ = some (.int .i64 2048) := (cell_of_row wr B 34 _ _ _ hA).trans (by kernel_rfl)
      have f34 : wr.frozen? ⟨B, 34, none⟩ = false := frozen_of_row wr B 34 _ _ hA
      have c38 : wr.cell? ⟨B, 38, none⟩ = some (.bool false) := (cell_of_row wr B 38 _ _ _ hA).trans (by kernel_rfl)
      have f38 : wr.frozen? ⟨B, 38, none⟩ = false := frozen_of_row wr B 38 _ _ hA
      have c39 : wr.cell? ⟨B, 39, none⟩ = some (.int .i64 0) := (cell_of_row wr B 39 _ _ _ hA).trans (by kernel_rfl)
      have f39 : wr.frozen? ⟨B, 39, none⟩ = false := frozen_of_row wr B 39 _ _ hA
      have c47 : wr.cell? ⟨B, 47, none⟩ = some (.bool false) := (cell_of_row wr B 47 _ _ _ hA).trans (by kernel_rfl)
      have f47 : wr.frozen? ⟨B, 47, none⟩ = false := frozen_of_row wr B 47 _ _ hA
      have c49 : wr.cell? ⟨B, 49, none⟩ = some (.int .i64 0) := (cell_of_row wr B 49 _ _ _ hA).trans (by kernel_rfl)
      have f49 : wr.frozen? ⟨B, 49, none⟩ = false := frozen_of_row wr B 49 _ _ hA
      have c57 : wr.cell? ⟨B, 57, none⟩ = some (.int .i64 0) := (cell_of_row wr B 57 _ _ _ hA).trans (by kernel_rfl)
      have f57 : wr.frozen? ⟨B, 57, none⟩ = false := frozen_of_row wr B 57 _ _ hA
      go_upto_region 9 with fail
      have h9 : ArrAt (((((((((wr.setCell ⟨B, 0, none⟩ (.int .i64 (-1))).setCell ⟨B, 9, none⟩ (.int .i64 281474976710656)).setCell ⟨B, 19, none⟩ (.int .i64 281474976710656)).setCell ⟨B, 34, none⟩ (.int .i64 65536)).setCell ⟨B, 38, none⟩ (.bool true)).setCell ⟨B, 39, none⟩ (.int .i64 8)).setCell ⟨B, 47, none⟩ (.bool true)).setCell ⟨B, 49, none⟩ (.int .i64 4095)).setCell ⟨B, 57, none⟩ (.int .i64 1)) B (kn9 hx) := by
        have e : ((((((((((arrL fun _ => knB hx).toArray.setIfInBounds 0 (.int .i64 (-1))).setIfInBounds 9 (.int .i64 281474976710656)).setIfInBounds 19 (.int .i64 281474976710656)).setIfInBounds 34 (.int .i64 65536)).setIfInBounds 38 (.bool true)).setIfInBounds 39 (.int .i64 8)).setIfInBounds 47 (.bool true)).setIfInBounds 49 (.int .i64 4095)).setIfInBounds 57 (.int .i64 1)) = (arrL (kn9 hx)).toArray := by kernel_rfl
        unfold ArrAt
        rw [← e]
        exact (heap_setCell_same _ _ _ _ _ _ (heap_setCell_same _ _ _ _ _ _ (heap_setCell_same _ _ _ _ _ _ (heap_setCell_same _ _ _ _ _ _ (heap_setCell_same _ _ _ _ _ _ (heap_setCell_same _ _ _ _ _ _ (heap_setCell_same _ _ _ _ _ _ (heap_setCell_same _ _ _ _ _ _ (heap_setCell_same _ _ _ _ _ _ hA)))))))))
      have K9 : Keep w (((((((((wr.setCell ⟨B, 0, none⟩ (.int .i64 (-1))).setCell ⟨B, 9, none⟩ (.int .i64 281474976710656)).setCell ⟨B, 19, none⟩ (.int .i64 281474976710656)).setCell ⟨B, 34, none⟩ (.int .i64 65536)).setCell ⟨B, 38, none⟩ (.bool true)).setCell ⟨B, 39, none⟩ (.int .i64 8)).setCell ⟨B, 47, none⟩ (.bool true)).setCell ⟨B, 49, none⟩ (.int .i64 4095)).setCell ⟨B, 57, none⟩ (.int .i64 1)) := (((((((((K.setCell (a := ⟨B, 0, none⟩) HNE.out.2 (.int .i64 (-1))).setCell (a := ⟨B, 9, none⟩) HNE.out.2 (.int .i64 281474976710656)).setCell (a := ⟨B, 19, none⟩) HNE.out.2 (.int .i64 281474976710656)).setCell (a := ⟨B, 34, none⟩) HNE.out.2 (.int .i64 65536)).setCell (a := ⟨B, 38, none⟩) HNE.out.2 (.bool true)).setCell (a := ⟨B, 39, none⟩) HNE.out.2 (.int .i64 8)).setCell (a := ⟨B, 47, none⟩) HNE.out.2 (.bool true)).setCell (a := ⟨B, 49, none⟩) HNE.out.2 (.int .i64 4095)).setCell (a := ⟨B, 57, none⟩) HNE.out.2 (.int .i64 1))
      clear c0 f0 c9 f9 c19 f19 c34 f34 c38 f38 c39 f39 c47 f47 c49 f49 c57 f57 K hA
      generalize (((((((((wr.setCell ⟨B, 0, none⟩ (.int .i64 (-1))).setCell ⟨B, 9, none⟩ (.int .i64 281474976710656)).setCell ⟨B, 19, none⟩ (.int .i64 281474976710656)).setCell ⟨B, 34, none⟩ (.int .i64 65536)).setCell ⟨B, 38, none⟩ (.bool true)).setCell ⟨B, 39, none⟩ (.int .i64 8)).setCell ⟨B, 47, none⟩ (.bool true)).setCell ⟨B, 49, none⟩ (.int .i64 4095)).setCell ⟨B, 57, none⟩ (.int .i64 1)) = w9 at *
      obtain ⟨xa, hxa⟩ : ∃ x, repS 120 1501 = x := ⟨_, rfl⟩
      have xas : xa.size = 1501 := by rw [← hxa]; exact repS_size _ _
      have HXA := Lib.hid hxa
      obtain ⟨xb, hxb⟩ : ∃ x, repS 120 1495 = x := ⟨_, rfl⟩
      have xbs : xb.size = 1495 := by rw [← hxb]; exact repS_size _ _
      have HXB := Lib.hid hxb
      have HXS := Lib.hid (And.intro xas xbs)
      clear hxa hxb xas xbs
      go_upto_region 10 with (go_at_call 21; ((with_reducible refine (rep_is 120 1501 1501 xa _ (by omega) rfl HXA).mono ?_); rintro e' wa ⟨rfl, ka⟩; have ha := arr_k h9 ka; have K10 := K9.trans ka; clear h9 K9 ka; have c69 : wa.cell? ⟨B, 69, none⟩ = some (.int .i64 0) := (cell_of_row wa B 69 _ _ _ ha).trans (by kernel_rfl); have f69 : wa.frozen? ⟨B, 69, none⟩ = false := frozen_of_row wa B 69 _ _ ha; have c77 : wa.cell? ⟨B, 77, none⟩ = some (.bool false) := (cell_of_row wa B 77 _ _ _ ha).trans (by kernel_rfl); have f77 : wa.frozen? ⟨B, 77, none⟩ = false := frozen_of_row wa B 77 _ _ ha; have c78 : wa.cell? ⟨B, 78, none⟩ = some (.int .i64 0) := (cell_of_row wa B 78 _ _ _ ha).trans (by kernel_rfl); have f78 : wa.frozen? ⟨B, 78, none⟩ = false := frozen_of_row wa B 78 _ _ ha; have c88 : wa.cell? ⟨B, 88, none⟩ = some (.int .i64 2048) := (cell_of_row wa B 88 _ _ _ ha).trans (by kernel_rfl); have f88 : wa.frozen? ⟨B, 88, none⟩ = false := frozen_of_row wa B 88 _ _ ha; have c98 : wa.cell? ⟨B, 98, none⟩ = some (.string hx) := (cell_of_row wa B 98 _ _ _ ha).trans (by kernel_rfl); have f98 : wa.frozen? ⟨B, 98, none⟩ = false := frozen_of_row wa B 98 _ _ ha))
      have h10 : ArrAt (((((wa.setCell ⟨B, 69, none⟩ (.int .i64 1)).setCell ⟨B, 77, none⟩ (.bool true)).setCell ⟨B, 78, none⟩ (.int .i64 65536)).setCell ⟨B, 88, none⟩ (.int .i64 61889)).setCell ⟨B, 98, none⟩ (.string xa)) B (kn10 hx xa) := by
        have e : ((((((arrL (kn9 hx)).toArray.setIfInBounds 69 (.int .i64 1)).setIfInBounds 77 (.bool true)).setIfInBounds 78 (.int .i64 65536)).setIfInBounds 88 (.int .i64 61889)).setIfInBounds 98 (.string xa)) = (arrL (kn10 hx xa)).toArray := by kernel_rfl
        unfold ArrAt
        rw [← e]
        exact (heap_setCell_same _ _ _ _ _ _ (heap_setCell_same _ _ _ _ _ _ (heap_setCell_same _ _ _ _ _ _ (heap_setCell_same _ _ _ _ _ _ (heap_setCell_same _ _ _ _ _ _ ha)))))
      have K11 : Keep w (((((wa.setCell ⟨B, 69, none⟩ (.int .i64 1)).setCell ⟨B, 77, none⟩ (.bool true)).setCell ⟨B, 78, none⟩ (.int .i64 65536)).setCell ⟨B, 88, none⟩ (.int .i64 61889)).setCell ⟨B, 98, none⟩ (.string xa)) := (((((K10.setCell (a := ⟨B, 69, none⟩) HNE.out.2 (.int .i64 1)).setCell (a := ⟨B, 77, none⟩) HNE.out.2 (.bool true)).setCell (a := ⟨B, 78, none⟩) HNE.out.2 (.int .i64 65536)).setCell (a := ⟨B, 88, none⟩) HNE.out.2 (.int .i64 61889)).setCell (a := ⟨B, 98, none⟩) HNE.out.2 (.string xa))
      clear c69 f69 c77 f77 c78 f78 c88 f88 c98 f98 K10 ha
      generalize (((((wa.setCell ⟨B, 69, none⟩ (.int .i64 1)).setCell ⟨B, 77, none⟩ (.bool true)).setCell ⟨B, 78, none⟩ (.int .i64 65536)).setCell ⟨B, 88, none⟩ (.int .i64 61889)).setCell ⟨B, 98, none⟩ (.string xa)) = w10 at *
      go_upto_region 11 with (go_at_call 21; ((with_reducible refine (rep_is 120 1495 1495 xb _ (by omega) rfl HXB).mono ?_); rintro e' wb ⟨rfl, kb⟩; have hb := arr_k h10 kb; have K12 := K11.trans kb; clear h10 K11 kb; have c104 : wb.cell? ⟨B, 104, none⟩ = some (.bool false) := (cell_of_row wb B 104 _ _ _ hb).trans (by kernel_rfl); have f104 : wb.frozen? ⟨B, 104, none⟩ = false := frozen_of_row wb B 104 _ _ hb; have c107 : wb.cell? ⟨B, 107, none⟩ = some (.string hx) := (cell_of_row wb B 107 _ _ _ hb).trans (by kernel_rfl); have f107 : wb.frozen? ⟨B, 107, none⟩ = false := frozen_of_row wb B 107 _ _ hb))
      have h11 : ArrAt ((wb.setCell ⟨B, 104, none⟩ (.bool true)).setCell ⟨B, 107, none⟩ (.string xb)) B (kn11 hx xa xb) := by
        have e : (((arrL (kn10 hx xa)).toArray.setIfInBounds 104 (.bool true)).setIfInBounds 107 (.string xb)) = (arrL (kn11 hx xa xb)).toArray := by kernel_rfl
        unfold ArrAt
        rw [← e]
        exact (heap_setCell_same _ _ _ _ _ _ (heap_setCell_same _ _ _ _ _ _ hb))
      have K13 : Keep w ((wb.setCell ⟨B, 104, none⟩ (.bool true)).setCell ⟨B, 107, none⟩ (.string xb)) := ((K12.setCell (a := ⟨B, 104, none⟩) HNE.out.2 (.bool true)).setCell (a := ⟨B, 107, none⟩) HNE.out.2 (.string xb))
      clear c104 f104 c107 f107 K12 hb
      generalize ((wb.setCell ⟨B, 104, none⟩ (.bool true)).setCell ⟨B, 107, none⟩ (.string xb)) = w11 at *
      have HA := Lib.hid h11
      have HK := Lib.hid K13
      clear h11 K13
      go_wp2_with fail
      go_loopw [4, 5, 6, 7, 8] (fun v _ _ _ _ wr => ∃ i : Nat, i ≤ 12 ∧ v = .int .i64 i ∧ Hid (ArrAt wr B (kn11 hx xa xb)) ∧ Hid (Keep w wr)) (fun v _ _ _ _ _ => 12 - (intOf v).toNat)
      case atStart => exact ⟨0, by omega, rfl, HA, HK⟩
      case round =>
        obtain ⟨i, hi, rfl, HAr, HKr⟩ := hrel
        clear HA HK
        by_cases hlt : i < 12
        · obtain ⟨fr, hfr⟩ : ∃ fr, kn11 hx xa xb i = fr := ⟨_, rfl⟩
          have hr := arr_range HAr.out i hlt
          have hno := kn_bad hx xa xb HXS.out.1 HXS.out.2 i hlt
          rw [hfr] at hr hno
          obtain ⟨dd, dsr, dt, dp, dv, dq, dn, dy, dx⟩ := fr
          have HT : Hid (Frm.str ⟨dd, dsr, dt, dp, dv, dq, dn, dy, dx⟩ = ⟨#[]⟩) := Lib.hid (str_no hno)
          have HE : Hid (Frm.err ⟨dd, dsr, dt, dp, dv, dq, dn, dy, dx⟩ = 170) := Lib.hid (err_no hno)
          have HW : Hid (Frm.wire ⟨dd, dsr, dt, dp, dv, dq, dn, dy, dx⟩ = 0) := Lib.hid (wire_no hno)
          have HR : Hid (wr.rangeAt B (i * 9) [.int .i64 dd, .int .i64 dsr, .bool dt, .int .i64 dp, .int .i64 dv, .bool dq, .int .i64 dn, .int .i64 dy, .string dx]) := Lib.hid (by rw [Nat.mul_comm]; exact hr)
          clear hfr hr hno
          go_upto_region 14 with fail
          go_upto_region 16 with (first | (refine wpList_load_mid rfl 23 _ rfl B (i * 9) rfl [.int .i64 dd, .int .i64 dsr, .bool dt, .int .i64 dp, .int .i64 dv, .bool dq, .int .i64 dn, .int .i64 dy, .string dx] _ HR.out Try.underlying23 rfl info_frame ?_) | (go_at_call 11; ((with_reducible refine (encode_is dd dsr dp dv dn dy dt dq dx ⟨#[]⟩ 170 _ HT HE).mono ?_); rintro e' w8 ⟨rfl, kk⟩; have HR := Lib.hid (range_k HR.out kk); have HAr := Lib.hid (arr_k HAr.out kk); have HKr := Lib.hid (HKr.out.trans kk); clear kk)) | (go_at_call 13; ((with_reducible refine (wire_is dd dsr dp dv dn dy dt dq dx 0 170 _ HW HE).mono ?_); rintro e' w8 ⟨rfl, kk⟩; have HR := Lib.hid (range_k HR.out kk); have HAr := Lib.hid (arr_k HAr.out kk); have HKr := Lib.hid (HKr.out.trans kk); clear kk)))
          go_wp2_with (first | (refine wpList_load_mid rfl 23 _ rfl B (i * 9) rfl [.int .i64 dd, .int .i64 dsr, .bool dt, .int .i64 dp, .int .i64 dv, .bool dq, .int .i64 dn, .int .i64 dy, .string dx] _ HR.out Try.underlying23 rfl info_frame ?_) | (go_at_call 15; ((with_reducible refine (check_is dd dsr dp dv dn dy dt dq dx 170 _ HE).mono ?_); rintro e' w9 ⟨rfl, kk⟩; have HAr := Lib.hid (arr_k HAr.out kk); have HKr := Lib.hid (HKr.out.trans kk); clear kk)))
          go_roundw
          case rel => exact ⟨i + 1, by omega, by go_num, HAr, HKr⟩
          case measure => simp [intOf]; omega
        · obtain rfl : i = 12 := by omega
          clear hi hlt HXB HAr
          have K := HKr.out
          clear HKr
          obtain ⟨yy, hyy⟩ : ∃ x, repS 121 1494 = x := ⟨_, rfl⟩
          have yys : yy.size = 1494 := by rw [← hyy]; exact repS_size _ _
          have HYY := Lib.hid hyy
          have HYS := Lib.hid yys
          clear hyy yys
          go_upto_region 19 with (go_at_call 21; ((with_reducible refine (rep_is 121 1494 1494 yy _ (by omega) rfl HYY).mono ?_); rintro e' w12 ⟨rfl, k12⟩))
          have hU : FrAt (w12.alloc (.cells #[.int .i64 281474976710655, .int .i64 281474976710655, .bool true, .int .i64 7, .int .i64 4094, .bool true, .int .i64 65535, .int .i64 65535, .string yy] 23)) w12.heap.size 281474976710655 281474976710655 true 7 4094 true 65535 65535 yy := heap_alloc_new w12 _
          have K1 := Lib.hid ((K.trans k12).alloc (.cells #[.int .i64 281474976710655, .int .i64 281474976710655, .bool true, .int .i64 7, .int .i64 4094, .bool true, .int .i64 65535, .int .i64 65535, .string yy] 23))
          clear K k12
          generalize w12.alloc (.cells #[.int .i64 281474976710655, .int .i64 281474976710655, .bool true, .int .i64 7, .int .i64 4094, .bool true, .int .i64 65535, .int .i64 65535, .string yy] 23) = w13 at *
          generalize w12.heap.size = U at *
          go_upto_region 20 with fail
          have hV : FrAt (w13.alloc (.cells #[.int .i64 0, .int .i64 0, .bool false, .int .i64 0, .int .i64 0, .bool false, .int .i64 0, .int .i64 0, .string ⟨#[]⟩] 23)) w13.heap.size 0 0 false 0 0 false 0 0 ⟨#[]⟩ := heap_alloc_new w13 _
          have hU := fr_k hU ((Keep.refl w13).alloc (.cells #[.int .i64 0, .int .i64 0, .bool false, .int .i64 0, .int .i64 0, .bool false, .int .i64 0, .int .i64 0, .string ⟨#[]⟩] 23))
          have K2 := Lib.hid (K1.out.alloc (.cells #[.int .i64 0, .int .i64 0, .bool false, .int .i64 0, .int .i64 0, .bool false, .int .i64 0, .int .i64 0, .string ⟨#[]⟩] 23))
          clear K1
          generalize w13.alloc (.cells #[.int .i64 0, .int .i64 0, .bool false, .int .i64 0, .int .i64 0, .bool false, .int .i64 0, .int .i64 0, .string ⟨#[]⟩] 23) = w14 at *
          generalize w13.heap.size = V at *
          obtain ⟨z60, hz60⟩ : ∃ x, repS 0 60 = x := ⟨_, rfl⟩
          have HZ60 := Lib.hid hz60
          clear hz60
          go_upto_region 22 with (go_at_call 21; ((with_reducible refine (rep_is 0 60 60 z60 _ (by omega) rfl HZ60).mono ?_); rintro e' w15 ⟨rfl, k15⟩))
          have HU := Lib.hid (fr_k hU k15)
          have HV := Lib.hid (fr_k hV k15)
          have HK := Lib.hid (K2.out.trans k15)
          clear hU hV k15 K2
          have hzs : z60.size = 60 := by rw [← HZ60.out]; exact repS_size _ _
          have HX : Hid (Seven z60) := Lib.hid (seven_is z60 HZ60.out)
          have HZS := Lib.hid hzs
          clear hzs
          go_wp2_with fail
          go_loopw [14, 101] (fun _ v wr => ∃ i : Nat, i ≤ 7 ∧ v = .int .i64 i ∧ Hid (Keep w15 wr)) (fun _ v _ => 7 - (intOf v).toNat)
          case atStart => exact ⟨0, by omega, rfl, Lib.hid (Keep.refl w15)⟩
          case round =>
            obtain ⟨i, hi, rfl, HKr⟩ := hrel
            by_cases hlt : i < 7
            · obtain ⟨h, a1, a2, a3, t, hidx, e1, e2, hsl, hsz, HS, HB⟩ := HX.out i hlt
              have hzs := HZS.out
              have E1 := Lib.hid e1
              have E2 := Lib.hid e2
              clear e1 e2
              have h3 : a3.size ≤ 100000 := by omega
              have h4 : t.size ≤ maxLen := by unfold maxLen; omega
              have HH3 := Lib.hid h3
              have HH4 := Lib.hid h4
              have g2 : ¬ 9223372036854775807 < 12 + h.size := by omega
              have g3 : ¬ 9223372036854775807 < a1.size + z60.size := by omega
              have g1 := head_room h hsz.1
              clear h3 h4 hsz hzs
              have e1 := E1.out
              have e2 := E2.out
              go_wp2_with (first | (go_at_call 24; ((with_reducible refine (seal_is a3 t _ HH3.out HS).mono ?_); rintro e' w16 ⟨rfl, k16⟩)) | (go_at_call 25; ((with_reducible refine (malformed_is t true _ HH4.out HB).mono ?_); rintro e' w17 ⟨rfl, k17⟩)))
              clear e1 e2 g1 g2 g3 hidx hsl
              go_roundw
              case rel => exact ⟨i + 1, by omega, by go_num, Lib.hid ((HKr.out.trans k16).trans k17)⟩
              case measure => simp [intOf]; omega
            · obtain rfl : i = 7 := by omega
              clear hi hlt HX
              obtain ⟨z59, u9, b1, b2, u10, b3, b4, u11, hsl, ⟨e1, e2, e3, e4⟩, ⟨l1, l2, l3⟩, ⟨m1, m2, m3⟩, ⟨n1, n2, n3⟩, HS1, HS2, HS3, HB1, HB2, HB3⟩ := tail_is z60 xa HZ60.out HXS.out.1
              have g1 : ¬ 9223372036854775807 < b1.size + z60.size := by omega
              have g2 : ¬ 9223372036854775807 < b3.size + xa.size := by have := HXS.out.1; omega
              have HL := Lib.hid (And.intro l1 (And.intro l2 l3))
              have HM := Lib.hid (And.intro m1 (And.intro m2 m3))
              clear l1 l2 l3 m1 m2 m3 n1 n2 n3
              have e1 : (⟨#[0, 0, 0, 0, 0, 1, 0, 0, 0, 0, 0, 2]⟩ : ByteArray) ++ ⟨#[0, 0]⟩ = b1 := e1
              have e3 : (⟨#[0, 0, 0, 0, 0, 1, 0, 0, 0, 0, 0, 2]⟩ : ByteArray) ++ ⟨#[8, 0]⟩ = b3 := e3
              have g3 := head_room ⟨#[0, 0]⟩ (by decide)
              have g4 := head_room ⟨#[8, 0]⟩ (by decide)
              have HFO := Lib.hid (full_ok yy HYS.out)
              have HFD := Lib.hid (full_dec yy HYS.out)
              have HFW := Lib.hid (full_wire yy HYS.out)
              have HZO := Lib.hid zero_ok
              have HZD := Lib.hid zero_dec
              have HZW := Lib.hid zero_wire
              have hU := Lib.hid (fr_k HU.out HKr.out)
              have hV := Lib.hid (fr_k HV.out HKr.out)
              have KK := Lib.hid (HK.out.trans HKr.out)
              clear HU HV HKr HK
              have H8 := Lib.hid bad_8
              obtain ⟨c0, c1, c2, c3, c4, c5, c6, c7, c8⟩ := fr_cells hU.out
              obtain ⟨d0, d1, d2, d3, d4, d5, d6, d7, d8⟩ := fr_cells hV.out
              go_upto_region 28 with fail
              go_wp2_with (first | (go_at_call 17; ((with_reducible refine (works_any _).mono ?_); rintro e' wy ⟨rfl, kk⟩; have KK := Lib.hid (KK.out.trans kk); have hU := Lib.hid (fr_k hU.out kk); have hV := Lib.hid (fr_k hV.out kk); clear kk c0 c1 c2 c3 c4 c5 c6 c7 c8 d0 d1 d2 d3 d4 d5 d6 d7 d8; obtain ⟨c0, c1, c2, c3, c4, c5, c6, c7, c8⟩ := fr_cells hU.out; obtain ⟨d0, d1, d2, d3, d4, d5, d6, d7, d8⟩ := fr_cells hV.out)) | (go_at_call 23; ((with_reducible refine (back_is 281474976710655 281474976710655 7 4094 65535 65535 true true yy _ 281474976710655 281474976710655 7 4094 65535 65535 true true yy HFO HFD).mono ?_); rintro e' wy ⟨rfl, kk⟩; have KK := Lib.hid (KK.out.trans kk); have hU := Lib.hid (fr_k hU.out kk); have hV := Lib.hid (fr_k hV.out kk); clear kk c0 c1 c2 c3 c4 c5 c6 c7 c8 d0 d1 d2 d3 d4 d5 d6 d7 d8; obtain ⟨c0, c1, c2, c3, c4, c5, c6, c7, c8⟩ := fr_cells hU.out; obtain ⟨d0, d1, d2, d3, d4, d5, d6, d7, d8⟩ := fr_cells hV.out)) | (go_at_call 23; ((with_reducible refine (back_is 0 0 0 0 0 0 false false ⟨#[]⟩ _ 0 0 0 0 0 0 false false ⟨#[]⟩ HZO HZD).mono ?_); rintro e' wy ⟨rfl, kk⟩; have KK := Lib.hid (KK.out.trans kk); have hU := Lib.hid (fr_k hU.out kk); have hV := Lib.hid (fr_k hV.out kk); clear kk c0 c1 c2 c3 c4 c5 c6 c7 c8 d0 d1 d2 d3 d4 d5 d6 d7 d8; obtain ⟨c0, c1, c2, c3, c4, c5, c6, c7, c8⟩ := fr_cells hU.out; obtain ⟨d0, d1, d2, d3, d4, d5, d6, d7, d8⟩ := fr_cells hV.out)) | (go_at_call 28; ((with_reducible refine (size_is 281474976710655 281474976710655 7 4094 65535 65535 true true yy 1542 _ HFO HFW).mono ?_); rintro e' wy ⟨rfl, kk⟩; have KK := Lib.hid (KK.out.trans kk); have hU := Lib.hid (fr_k hU.out kk); have hV := Lib.hid (fr_k hV.out kk); clear kk c0 c1 c2 c3 c4 c5 c6 c7 c8 d0 d1 d2 d3 d4 d5 d6 d7 d8; obtain ⟨c0, c1, c2, c3, c4, c5, c6, c7, c8⟩ := fr_cells hU.out; obtain ⟨d0, d1, d2, d3, d4, d5, d6, d7, d8⟩ := fr_cells hV.out)) | (go_at_call 28; ((with_reducible refine (size_is 0 0 0 0 0 0 false false ⟨#[]⟩ 84 _ HZO HZW).mono ?_); rintro e' wy ⟨rfl, kk⟩; have KK := Lib.hid (KK.out.trans kk); have hU := Lib.hid (fr_k hU.out kk); have hV := Lib.hid (fr_k hV.out kk); clear kk c0 c1 c2 c3 c4 c5 c6 c7 c8 d0 d1 d2 d3 d4 d5 d6 d7 d8; obtain ⟨c0, c1, c2, c3, c4, c5, c6, c7, c8⟩ := fr_cells hU.out; obtain ⟨d0, d1, d2, d3, d4, d5, d6, d7, d8⟩ := fr_cells hV.out)) | (go_at_call 25; ((with_reducible refine (malformed_is ⟨#[]⟩ true _ (by decide) H8).mono ?_); rintro e' wy ⟨rfl, kk⟩; have KK := Lib.hid (KK.out.trans kk); have hU := Lib.hid (fr_k hU.out kk); have hV := Lib.hid (fr_k hV.out kk); clear kk c0 c1 c2 c3 c4 c5 c6 c7 c8 d0 d1 d2 d3 d4 d5 d6 d7 d8; obtain ⟨c0, c1, c2, c3, c4, c5, c6, c7, c8⟩ := fr_cells hU.out; obtain ⟨d0, d1, d2, d3, d4, d5, d6, d7, d8⟩ := fr_cells hV.out)) | (go_at_call 25; ((with_reducible refine (malformed_is u9 true _ HM.out.1 HB1).mono ?_); rintro e' wy ⟨rfl, kk⟩; have KK := Lib.hid (KK.out.trans kk); have hU := Lib.hid (fr_k hU.out kk); have hV := Lib.hid (fr_k hV.out kk); clear kk c0 c1 c2 c3 c4 c5 c6 c7 c8 d0 d1 d2 d3 d4 d5 d6 d7 d8; obtain ⟨c0, c1, c2, c3, c4, c5, c6, c7, c8⟩ := fr_cells hU.out; obtain ⟨d0, d1, d2, d3, d4, d5, d6, d7, d8⟩ := fr_cells hV.out)) | (go_at_call 25; ((with_reducible refine (malformed_is u10 true _ HM.out.2.1 HB2).mono ?_); rintro e' wy ⟨rfl, kk⟩; have KK := Lib.hid (KK.out.trans kk); have hU := Lib.hid (fr_k hU.out kk); have hV := Lib.hid (fr_k hV.out kk); clear kk c0 c1 c2 c3 c4 c5 c6 c7 c8 d0 d1 d2 d3 d4 d5 d6 d7 d8; obtain ⟨c0, c1, c2, c3, c4, c5, c6, c7, c8⟩ := fr_cells hU.out; obtain ⟨d0, d1, d2, d3, d4, d5, d6, d7, d8⟩ := fr_cells hV.out)) | (go_at_call 25; ((with_reducible refine (malformed_is u11 true _ HM.out.2.2 HB3).mono ?_); rintro e' wy ⟨rfl, kk⟩; have KK := Lib.hid (KK.out.trans kk); have hU := Lib.hid (fr_k hU.out kk); have hV := Lib.hid (fr_k hV.out kk); clear kk c0 c1 c2 c3 c4 c5 c6 c7 c8 d0 d1 d2 d3 d4 d5 d6 d7 d8; obtain ⟨c0, c1, c2, c3, c4, c5, c6, c7, c8⟩ := fr_cells hU.out; obtain ⟨d0, d1, d2, d3, d4, d5, d6, d7, d8⟩ := fr_cells hV.out)) | (go_at_call 24; ((with_reducible refine (seal_is z59 u9 _ HL.out.1 HS1).mono ?_); rintro e' wy ⟨rfl, kk⟩; have KK := Lib.hid (KK.out.trans kk); have hU := Lib.hid (fr_k hU.out kk); have hV := Lib.hid (fr_k hV.out kk); clear kk c0 c1 c2 c3 c4 c5 c6 c7 c8 d0 d1 d2 d3 d4 d5 d6 d7 d8; obtain ⟨c0, c1, c2, c3, c4, c5, c6, c7, c8⟩ := fr_cells hU.out; obtain ⟨d0, d1, d2, d3, d4, d5, d6, d7, d8⟩ := fr_cells hV.out)) | (go_at_call 24; ((with_reducible refine (seal_is b2 u10 _ HL.out.2.1 HS2).mono ?_); rintro e' wy ⟨rfl, kk⟩; have KK := Lib.hid (KK.out.trans kk); have hU := Lib.hid (fr_k hU.out kk); have hV := Lib.hid (fr_k hV.out kk); clear kk c0 c1 c2 c3 c4 c5 c6 c7 c8 d0 d1 d2 d3 d4 d5 d6 d7 d8; obtain ⟨c0, c1, c2, c3, c4, c5, c6, c7, c8⟩ := fr_cells hU.out; obtain ⟨d0, d1, d2, d3, d4, d5, d6, d7, d8⟩ := fr_cells hV.out)) | (go_at_call 24; ((with_reducible refine (seal_is b4 u11 _ HL.out.2.2 HS3).mono ?_); rintro e' wy ⟨rfl, kk⟩; have KK := Lib.hid (KK.out.trans kk); have hU := Lib.hid (fr_k hU.out kk); have hV := Lib.hid (fr_k hV.out kk); clear kk c0 c1 c2 c3 c4 c5 c6 c7 c8 d0 d1 d2 d3 d4 d5 d6 d7 d8; obtain ⟨c0, c1, c2, c3, c4, c5, c6, c7, c8⟩ := fr_cells hU.out; obtain ⟨d0, d1, d2, d3, d4, d5, d6, d7, d8⟩ := fr_cells hV.out)) | (go_at_call 21; ((with_reducible refine (rep_is 120 1501 1501 xa _ (by omega) rfl HXA).mono ?_); rintro e' wy ⟨rfl, kk⟩; have KK := Lib.hid (KK.out.trans kk); have hU := Lib.hid (fr_k hU.out kk); have hV := Lib.hid (fr_k hV.out kk); clear kk c0 c1 c2 c3 c4 c5 c6 c7 c8 d0 d1 d2 d3 d4 d5 d6 d7 d8; obtain ⟨c0, c1, c2, c3, c4, c5, c6, c7, c8⟩ := fr_cells hU.out; obtain ⟨d0, d1, d2, d3, d4, d5, d6, d7, d8⟩ := fr_cells hV.out)))
              go_ret
              exact ⟨rfl, KK.out⟩
end Go.Proofs.Ytmgnmkdjphnaoaa
