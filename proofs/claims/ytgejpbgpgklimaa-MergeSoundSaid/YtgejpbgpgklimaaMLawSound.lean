/- MergeSound. -/
import Derived.Test.YtgejpbgpgklimaaMPcs
import Derived.Test.YtgejpbgpgklimaaMWorks
import Derived.Test.YtgejpbgpgklimaaMSndM
import Derived.Test.YtgejpbgpgklimaaMAppV
import Derived.Test.YtgejpbgpgklimaaShelf
import Derived.Test.YtgejpbgpgklimaaTail
namespace Go.Proofs.Ytgejpbgpgklimaa
open Go Go.RowKit

theorem two_mg (w : World) (t : TypeId) (o : Bool) (n x : Int) (d : ByteArray) (w' : World) (h : w' = (w.alloc (.cells #[.bool o, .int .i64 n, .int .i64 x, .string d] t)).alloc (.cells #[.bool o, .int .i64 n, .int .i64 x, .string d] t)) : MgT t w' w.heap.size o n x d ∧ MgT t w' (w.heap.size + 1) o n x d ∧ Keep w w' := by
  subst h
  refine ⟨keepRow ((Keep.refl _).alloc _) (mg_new w t o n x d), ?_, ((Keep.refl _).alloc _).alloc _⟩
  have := mg_new (w.alloc (.cells #[.bool o, .int .i64 n, .int .i64 x, .string d] t)) t o n x d
  rwa [World.size_alloc] at this
theorem rowP3 (w : World) (p q r : Pc) (g : Nat) (hg : g = w.heap.size) : RowP (w.alloc (.cells #[.bool p.st, .int .i64 p.num, .int .i64 p.cnt, .string p.data, .bool q.st, .int .i64 q.num, .int .i64 q.cnt, .string q.data, .bool r.st, .int .i64 r.num, .int .i64 r.cnt, .string r.data] 45)) (.slice (some ⟨g, 0, none⟩) 3 3) [p, q, r] := by
  subst hg
  refine .inr ⟨_, 0, 3, 3, rfl, rfl, ⟨by omega, by unfold maxLen; omega⟩, fun j p' hj => ?_⟩
  have hn := heap_alloc_new w (.cells #[.bool p.st, .int .i64 p.num, .int .i64 p.cnt, .string p.data, .bool q.st, .int .i64 q.num, .int .i64 q.cnt, .string q.data, .bool r.st, .int .i64 r.num, .int .i64 r.cnt, .string r.data] 45)
  have hj3 : j = 0 ∨ j = 1 ∨ j = 2 := by
    have := (List.getElem?_eq_some_iff.1 hj).1
    simp at this
    omega
  rcases hj3 with rfl | rfl | rfl <;> simp at hj <;> subst hj <;> exact ⟨cell_of_row _ _ _ _ _ _ hn, cell_of_row _ _ _ _ _ _ hn, cell_of_row _ _ _ _ _ _ hn, cell_of_row _ _ _ _ _ _ hn⟩
set_option maxRecDepth 100000 in
set_option maxHeartbeats 4000000 in
theorem lawSound_any (o : Bool) (n c : Int) (x : ByteArray) (xd : ByteArray) (L g : Int) (V : Value) (gs : List Int) (vo : Value) (os : List Int) (w : World) (hx : x.size ≤ maxLen) (hL : 0 ≤ L ∧ L < 65536) (hg : 0 ≤ g ∧ g < 256) (hx1 : xd.size ≤ maxLen) (hb : BytesL gs) (hV : BytesIn w V gs) (hbo : BytesL os) (hO : BytesIn w vo os) :
    Calls Try.prog 7 #[.agg #[.bool o, .int .i64 n, .int .i64 c, .string x], .agg #[.string xd, .int .u16 L, .int .u8 g, V], vo] w (Res (.bool true) w) := by
  obtain ⟨v0, len, cap, rfl⟩ := bytes_slice hV
  obtain ⟨a2, n2, cp2, rfl⟩ := bytes_slice hO
  unfold maxLen at hx
  obtain ⟨y, hy⟩ : ∃ y, x.extract 0 (min (x.size : Int) 200).toNat = y := ⟨_, rfl⟩
  have hys : y.size ≤ 200 := by rw [← hy, ByteArray.size_extract]; omega
  have hy9 : y.size ≤ 100000 := by omega
  obtain ⟨y1, hy1⟩ : ∃ s, sealG y 0#32 = s := ⟨_, rfl⟩
  obtain ⟨y2, hy2⟩ : ∃ s, sealG y unf = s := ⟨_, rfl⟩
  have HY1 := Lib.hid hy1
  have HY2 := Lib.hid hy2
  obtain ⟨l0, hl0⟩ : ∃ l, pcsD gs xd L g 30 = l := ⟨_, rfl⟩
  have hl31 : 1 ≤ l0.length ∧ l0.length ≤ 31 := by
    rw [← hl0]
    unfold pcsD
    rw [pcsL_length]
    have := offsD_length gs xd L 30
    omega
  have HL0 := Lib.hid hl0
  have HV := Lib.hid hV
  have HB := Lib.hid hb
  have HX := Lib.hid (And.intro hL (And.intro hg hx1))
  have HO := Lib.hid hO
  have HBO := Lib.hid hbo
  clear hV hb hO hbo hy1 hy2 hl0
  go_enter Try.func7, Try.ntmps7
  go_upto_region 3 with (go_at_call 16; ((with_reducible refine (works_any _).mono ?_); rintro e' w1 ⟨rfl, k1⟩))
  have K0 := ((Keep.refl w).alloc (.cells #[.bool o, .int .i64 n, .int .i64 c, .string x] 45)).alloc (.cells #[.string xd, .int .u16 L, .int .u8 g, .slice v0 len cap] 25)
  have hA : MgT 45 w1 w.heap.size o n c x := keepRow k1 (keepRow ((Keep.refl _).alloc _) (mg_new w 45 o n c x))
  have hD : DrT w1 (w.heap.size + 1) xd L g (.slice v0 len cap) := by
    have := heap_alloc_new (w.alloc (.cells #[.bool o, .int .i64 n, .int .i64 c, .string x] 45)) (.cells #[.string xd, .int .u16 L, .int .u8 g, .slice v0 len cap] 25)
    rw [World.size_alloc] at this
    exact keepRow k1 this
  have HK1 := Lib.hid (K0.trans k1)
  obtain ⟨A, hAe⟩ : ∃ A, w.heap.size = A := ⟨_, rfl⟩
  rw [hAe] at hA hD ⊢
  have hAw : w.heap.size ≤ A := by omega
  clear K0 k1 hAe
  go_cut [6] (fun a wx => a = .bool false ∧ Hid (MgT 45 wx A o n c y ∧ DrT wx (A + 1) xd L g (.slice v0 len cap) ∧ Keep w wx))
  case first =>
    obtain ⟨c0, c1, c2, c3⟩ := mg_cells hA
    have cf := mg_free hA 3
    have HE := Lib.hid (And.intro (mg_set hA y) (And.intro (show DrT (w1.setCell ⟨A, 3, none⟩ (.string y)) (A + 1) xd L g (.slice v0 len cap) from (keepX_set w1 A 3 (.string y)).row hD (by omega)) (HK1.out.setCell (a := ⟨A, 3, none⟩) hAw (.string y))))
    clear hA hD
    go_wp2
    go_meet
    exact ⟨rfl, HE⟩
  obtain ⟨rfl, HA⟩ := hcut
  clear hA hD hy hx
  generalize wc = w2 at *
  go_upto_region 4 with fail
  go_cut [7, 8] (fun a b wx => ∃ C D : Nat, a = .pointer (some ⟨C, 0, none⟩) ∧ b = .pointer (some ⟨D, 0, none⟩) ∧ C ≠ D ∧ w2.heap.size ≤ C ∧ w2.heap.size ≤ D ∧ Hid (MgT 45 wx C o n c y ∧ MgT 45 wx D o n c y ∧ Keep w2 wx))
  case first =>
    obtain ⟨c0, c1, c2, c3⟩ := mg_cells HA.out.1
    have hAl := mg_lt HA.out.1
    go_region
    all_goals go_wp2
    all_goals go_meet
    all_goals obtain ⟨t1, t2, t3⟩ := two_mg w2 45 o n c y _ rfl
    · exact ⟨_, _, rfl, rfl, by omega, by omega, by omega, Lib.hid ⟨t1, t2, Keep.drew t3⟩⟩
    · exact ⟨_, _, rfl, rfl, by omega, by omega, by omega, Lib.hid ⟨t2, t1, Keep.drew t3⟩⟩
  obtain ⟨C, D, rfl, rfl, hCD, hC2, hD2, HCD⟩ := hcut
  generalize wc = w3 at *
  go_upto_region 5 with fail
  go_cut [6] (fun a wx => a = .bool false ∧ Hid (MgT 45 wx C o n c y1 ∧ MgT 45 wx D o n c y2 ∧ Keep w2 wx))
  case first =>
    obtain ⟨c0, c1, c2, c3⟩ := mg_cells HA.out.1
    refine region_inv (J := fun bb aa ww => ∃ v28 v29 v30 v31 v32 v33 v34 v35 : Value, aa = ⟨#[Value.agg #[Value.bool o, Value.int IntKind.i64 n, Value.int IntKind.i64 c, Value.string x], Value.agg #[Value.string xd, Value.int IntKind.u16 L, Value.int IntKind.u8 g, Value.slice v0 len cap], Value.slice a2 n2 cp2, Value.pointer (some { block := A, off := 0 }), Value.pointer (some { block := A + 1, off := 0 }), undef, Value.bool false, Value.pointer (some { block := C, off := 0 }), Value.pointer (some { block := D, off := 0 }), undef, undef, undef, undef, undef, undef, undef, u16, u17, u18, u19, u20, u21, u22, u23, u24, u25, u26, u27, v28, v29, v30, v31, v32, v33, v34, v35, u36, u37, u38, u39, u40, u41, u42, u43, u44, u45, u46, u47, u48, u49, u50, u51, u52, u53, u54, u55, u56, u57, u58, u59, u60, u61, u62, u63, u64, u65, u66, u67, u68, u69, u70, u71, u72, u73, u74, u75, u76, u77, u78, u79, u80, u81, u82, u83, u84, u85, u86, u87, u88, u89, u90, u91, u92, u93, u94, u95, u96, u97, u98, u99, u100, u101, u102, u103, u104, u105, u106, u107, u108, u109, u110, u111, u112, u113, u114, u115, u116, u117, u118], []⟩ ∧ Keep w2 ww ∧ (bb 0 → v28 = .pointer (some ⟨A, 3, none⟩)) ∧ (bb 1 → v29 = .string y) ∧ (bb 2 → v30 = .string y1) ∧ (bb 3 → v31 = .pointer (some ⟨A, 3, none⟩)) ∧ (bb 4 → v32 = .string y) ∧ (bb 5 → v33 = .string y2) ∧ (bb 6 → v34 = .pointer (some ⟨C, 3, none⟩)) ∧ (bb 7 → True) ∧ (bb 8 → v35 = .pointer (some ⟨D, 3, none⟩)) ∧ (bb 9 → True) ∧ (∃ d, MgT 45 ww C o n c d ∧ (bb 7 → d = y1)) ∧ (∃ d, MgT 45 ww D o n c d ∧ (bb 9 → d = y2))) (by kernel_rfl) (by kernel_rfl) ?donew ?startw ?stepsw
    case donew =>
      rintro bb aa ww hb ⟨v28, v29, v30, v31, v32, v33, v34, v35, rfl, G, f0, f1, f2, f3, f4, f5, f6, f7, f8, f9, x0, x1⟩
      replace hb : ∀ k, k < 10 → bb k := fun k hk => hb k hk
      have g0 := f0 (hb 0 (by decide))
      have g1 := f1 (hb 1 (by decide))
      have g2 := f2 (hb 2 (by decide))
      have g3 := f3 (hb 3 (by decide))
      have g4 := f4 (hb 4 (by decide))
      have g5 := f5 (hb 5 (by decide))
      have g6 := f6 (hb 6 (by decide))
      have g7 := f7 (hb 7 (by decide))
      have g8 := f8 (hb 8 (by decide))
      have g9 := f9 (hb 9 (by decide))
      clear f0 f1 f2 f3 f4 f5 f6 f7 f8 f9
      obtain rfl := g0
      obtain rfl := g1
      obtain rfl := g2
      obtain rfl := g3
      obtain rfl := g4
      obtain rfl := g5
      obtain rfl := g6
      obtain rfl := g8
      obtain ⟨dC, hC0, hC1⟩ := x0
      obtain ⟨dD, hD0, hD1⟩ := x1
      obtain rfl := hC1 (hb 7 (by decide))
      obtain rfl := hD1 (hb 9 (by decide))
      have HE := Lib.hid (And.intro hC0 (And.intro hD0 G))
      clear hC0 hC1 hD0 hD1 G hb
      go_wp2
      go_meet
      exact ⟨rfl, HE⟩
    case startw => exact ⟨_, _, _, _, _, _, _, _, rfl, Keep.drew HCD.out.2.2, fun h => h.elim, fun h => h.elim, fun h => h.elim, fun h => h.elim, fun h => h.elim, fun h => h.elim, fun h => h.elim, fun h => h.elim, fun h => h.elim, fun h => h.elim, ⟨y, HCD.out.1, fun h => h.elim⟩, ⟨y, HCD.out.2.1, fun h => h.elim⟩⟩
    case stepsw =>
      refine StepsFrom.cons (k := 0) ?_ (StepsFrom.cons (k := 1) ?_ (StepsFrom.cons (k := 2) ?_ (StepsFrom.cons (k := 3) ?_ (StepsFrom.cons (k := 4) ?_ (StepsFrom.cons (k := 5) ?_ (StepsFrom.cons (k := 6) ?_ (StepsFrom.cons (k := 7) ?_ (StepsFrom.cons (k := 8) ?_ (StepsFrom.cons (k := 9) ?_ (StepsFrom.nil))))))))))
      · -- 0: val
        rintro bb aa ww hn hd ⟨v28, v29, v30, v31, v32, v33, v34, v35, rfl, G, f0, f1, f2, f3, f4, f5, f6, f7, f8, f9, x0, x1⟩ K hK
        have HK := Lib.hid hK
        clear hK
        go_simp
        exact HK.out _ _ ⟨_, _, _, _, _, _, _, _, rfl, G, fun _ => rfl, up (by decide) f1, up (by decide) f2, up (by decide) f3, up (by decide) f4, up (by decide) f5, up (by decide) f6, fun _ => trivial, up (by decide) f8, fun _ => trivial, x0.imp fun _ h => ⟨mg_k h.1 (Keep.refl _), fun h' => h.2 (down (by decide) h')⟩, x1.imp fun _ h => ⟨mg_k h.1 (Keep.refl _), fun h' => h.2 (down (by decide) h')⟩⟩
      · -- 1: val
        rintro bb aa ww hn hd ⟨v28, v29, v30, v31, v32, v33, v34, v35, rfl, G, f0, f1, f2, f3, f4, f5, f6, f7, f8, f9, x0, x1⟩ K hK
        have b0 : bb 0 := hd ⟨0, .data⟩ (by simp) (by rfl)
        obtain rfl := f0 b0
        have k0 := G.some c3
        have HK := Lib.hid hK
        clear hK
        go_simp
        exact HK.out _ _ ⟨_, _, _, _, _, _, _, _, rfl, G, fun _ => rfl, fun _ => rfl, up (by decide) f2, up (by decide) f3, up (by decide) f4, up (by decide) f5, up (by decide) f6, fun _ => trivial, up (by decide) f8, fun _ => trivial, x0.imp fun _ h => ⟨mg_k h.1 (Keep.refl _), fun h' => h.2 (down (by decide) h')⟩, x1.imp fun _ h => ⟨mg_k h.1 (Keep.refl _), fun h' => h.2 (down (by decide) h')⟩⟩
      · -- 2: val
        rintro bb aa ww hn hd ⟨v28, v29, v30, v31, v32, v33, v34, v35, rfl, G, f0, f1, f2, f3, f4, f5, f6, f7, f8, f9, x0, x1⟩ K hK
        have b1 : bb 1 := hd ⟨1, .data⟩ (by simp) (by rfl)
        obtain rfl := f1 b1
        have HK := Lib.hid hK
        clear hK
        go_wp2_with ((go_at_call 26; ((with_reducible refine (seal_is y y1 _ hy9 HY1).mono ?_); rintro e' w4 ⟨rfl, hk⟩)))
        exact HK.out _ _ ⟨_, _, _, _, _, _, _, _, rfl, (G.trans hk), up (by decide) f0, fun _ => rfl, fun _ => rfl, up (by decide) f3, up (by decide) f4, up (by decide) f5, up (by decide) f6, fun _ => trivial, up (by decide) f8, fun _ => trivial, x0.imp fun _ h => ⟨mg_k h.1 hk, fun h' => h.2 (down (by decide) h')⟩, x1.imp fun _ h => ⟨mg_k h.1 hk, fun h' => h.2 (down (by decide) h')⟩⟩
      · -- 3: val
        rintro bb aa ww hn hd ⟨v28, v29, v30, v31, v32, v33, v34, v35, rfl, G, f0, f1, f2, f3, f4, f5, f6, f7, f8, f9, x0, x1⟩ K hK
        have HK := Lib.hid hK
        clear hK
        go_simp
        exact HK.out _ _ ⟨_, _, _, _, _, _, _, _, rfl, G, up (by decide) f0, up (by decide) f1, up (by decide) f2, fun _ => rfl, up (by decide) f4, up (by decide) f5, up (by decide) f6, fun _ => trivial, up (by decide) f8, fun _ => trivial, x0.imp fun _ h => ⟨mg_k h.1 (Keep.refl _), fun h' => h.2 (down (by decide) h')⟩, x1.imp fun _ h => ⟨mg_k h.1 (Keep.refl _), fun h' => h.2 (down (by decide) h')⟩⟩
      · -- 4: val
        rintro bb aa ww hn hd ⟨v28, v29, v30, v31, v32, v33, v34, v35, rfl, G, f0, f1, f2, f3, f4, f5, f6, f7, f8, f9, x0, x1⟩ K hK
        have b3 : bb 3 := hd ⟨3, .data⟩ (by simp) (by rfl)
        obtain rfl := f3 b3
        have k0 := G.some c3
        have HK := Lib.hid hK
        clear hK
        go_simp
        exact HK.out _ _ ⟨_, _, _, _, _, _, _, _, rfl, G, up (by decide) f0, up (by decide) f1, up (by decide) f2, fun _ => rfl, fun _ => rfl, up (by decide) f5, up (by decide) f6, fun _ => trivial, up (by decide) f8, fun _ => trivial, x0.imp fun _ h => ⟨mg_k h.1 (Keep.refl _), fun h' => h.2 (down (by decide) h')⟩, x1.imp fun _ h => ⟨mg_k h.1 (Keep.refl _), fun h' => h.2 (down (by decide) h')⟩⟩
      · -- 5: val
        rintro bb aa ww hn hd ⟨v28, v29, v30, v31, v32, v33, v34, v35, rfl, G, f0, f1, f2, f3, f4, f5, f6, f7, f8, f9, x0, x1⟩ K hK
        have b4 : bb 4 := hd ⟨4, .data⟩ (by simp) (by rfl)
        obtain rfl := f4 b4
        have HK := Lib.hid hK
        clear hK
        go_wp2_with ((go_at_call 27; ((with_reducible refine (mark_is y y2 _ hy9 HY2).mono ?_); rintro e' w5 ⟨rfl, hk⟩)))
        exact HK.out _ _ ⟨_, _, _, _, _, _, _, _, rfl, (G.trans hk), up (by decide) f0, up (by decide) f1, up (by decide) f2, up (by decide) f3, fun _ => rfl, fun _ => rfl, up (by decide) f6, fun _ => trivial, up (by decide) f8, fun _ => trivial, x0.imp fun _ h => ⟨mg_k h.1 hk, fun h' => h.2 (down (by decide) h')⟩, x1.imp fun _ h => ⟨mg_k h.1 hk, fun h' => h.2 (down (by decide) h')⟩⟩
      · -- 6: val
        rintro bb aa ww hn hd ⟨v28, v29, v30, v31, v32, v33, v34, v35, rfl, G, f0, f1, f2, f3, f4, f5, f6, f7, f8, f9, x0, x1⟩ K hK
        have HK := Lib.hid hK
        clear hK
        go_simp
        exact HK.out _ _ ⟨_, _, _, _, _, _, _, _, rfl, G, up (by decide) f0, up (by decide) f1, up (by decide) f2, up (by decide) f3, up (by decide) f4, up (by decide) f5, fun _ => rfl, fun _ => trivial, up (by decide) f8, fun _ => trivial, x0.imp fun _ h => ⟨mg_k h.1 (Keep.refl _), fun h' => h.2 (down (by decide) h')⟩, x1.imp fun _ h => ⟨mg_k h.1 (Keep.refl _), fun h' => h.2 (down (by decide) h')⟩⟩
      · -- 7: fact
        rintro bb aa ww hn hd ⟨v28, v29, v30, v31, v32, v33, v34, v35, rfl, G, f0, f1, f2, f3, f4, f5, f6, f7, f8, f9, x0, x1⟩ K hK
        have b6 : bb 6 := hd ⟨6, .data⟩ (by simp) (by rfl)
        obtain rfl := f6 b6
        have b2 : bb 2 := hd ⟨2, .data⟩ (by simp) (by rfl)
        obtain rfl := f2 b2
        obtain ⟨dC, hC0, hC1⟩ := x0
        obtain ⟨dD, hD0, hD1⟩ := x1
        have hcc := (mg_cells hC0).2.2.2
        have hcf := mg_free hC0 3
        have HK := Lib.hid hK
        clear hK
        go_simp
        exact HK.out _ _ ⟨_, _, _, _, _, _, _, _, rfl, (G.setCell (a := ⟨C, 3, none⟩) (by omega) _), up (by decide) f0, up (by decide) f1, fun _ => rfl, up (by decide) f3, up (by decide) f4, up (by decide) f5, fun _ => rfl, fun _ => trivial, up (by decide) f8, fun _ => trivial, ⟨y1, mg_set hC0 y1, fun _ => rfl⟩, ⟨dD, mg_x hD0 (keepX_set _ C 3 _) (Ne.symm hCD), fun h => hD1 (down (by decide) h)⟩⟩
      · -- 8: val
        rintro bb aa ww hn hd ⟨v28, v29, v30, v31, v32, v33, v34, v35, rfl, G, f0, f1, f2, f3, f4, f5, f6, f7, f8, f9, x0, x1⟩ K hK
        have HK := Lib.hid hK
        clear hK
        go_simp
        exact HK.out _ _ ⟨_, _, _, _, _, _, _, _, rfl, G, up (by decide) f0, up (by decide) f1, up (by decide) f2, up (by decide) f3, up (by decide) f4, up (by decide) f5, up (by decide) f6, fun _ => trivial, fun _ => rfl, fun _ => trivial, x0.imp fun _ h => ⟨mg_k h.1 (Keep.refl _), fun h' => h.2 (down (by decide) h')⟩, x1.imp fun _ h => ⟨mg_k h.1 (Keep.refl _), fun h' => h.2 (down (by decide) h')⟩⟩
      · -- 9: fact
        rintro bb aa ww hn hd ⟨v28, v29, v30, v31, v32, v33, v34, v35, rfl, G, f0, f1, f2, f3, f4, f5, f6, f7, f8, f9, x0, x1⟩ K hK
        have b8 : bb 8 := hd ⟨8, .data⟩ (by simp) (by rfl)
        obtain rfl := f8 b8
        have b5 : bb 5 := hd ⟨5, .data⟩ (by simp) (by rfl)
        obtain rfl := f5 b5
        obtain ⟨dC, hC0, hC1⟩ := x0
        obtain ⟨dD, hD0, hD1⟩ := x1
        have hcc := (mg_cells hD0).2.2.2
        have hcf := mg_free hD0 3
        have HK := Lib.hid hK
        clear hK
        go_simp
        exact HK.out _ _ ⟨_, _, _, _, _, _, _, _, rfl, (G.setCell (a := ⟨D, 3, none⟩) (by omega) _), up (by decide) f0, up (by decide) f1, up (by decide) f2, up (by decide) f3, up (by decide) f4, fun _ => rfl, up (by decide) f6, fun _ => trivial, fun _ => rfl, fun _ => trivial, ⟨dC, mg_x hC0 (keepX_set _ D 3 _) hCD, fun h => hC1 (down (by decide) h)⟩, ⟨y2, mg_set hD0 y2, fun _ => rfl⟩⟩
  obtain ⟨rfl, HE⟩ := hcut
  clear HCD
  generalize wc = w6 at *
  go_upto_region 6 with fail
  have hA6 := mg_k HA.out.1 HE.out.2.2
  have hD6 : DrT w6 (A + 1) xd L g (.slice v0 len cap) := keepRow HE.out.2.2 HA.out.2.1
  obtain ⟨i0, hi, hz0, hz1, hz2⟩ := info_parts infoPc
  go_cut [9] (fun u wx => Hid (OwnP wx w6.heap.size u (l0 ++ [⟨o, n, c, y⟩, ⟨o, n, c, y1⟩, ⟨o, n, c, y2⟩])) ∧ Hid (Keep w6 wx))
  case first =>
    have HV6 := Lib.hid (HV.out.keep (HA.out.2.2.trans HE.out.2.2))
    obtain ⟨d0, d1, d2, d3⟩ := dr_cells hD6
    obtain ⟨a0, a1, a2', a3⟩ := mg_cells hA6
    obtain ⟨p0, p1, p2, p3⟩ := mg_cells HE.out.1
    obtain ⟨q0, q1, q2, q3⟩ := mg_cells HE.out.2.1
    clear hA6 hD6
    refine region_tail (h := 6) (W0 := w6) (listF [fun v ww => v = .agg #[.string xd, .int .u16 L, .int .u8 g, .slice v0 len cap], fun v ww => OwnP ww w6.heap.size v l0, fun v ww => v = .agg #[.bool o, .int .i64 n, .int .i64 c, .string y], fun v ww => v = .agg #[.bool o, .int .i64 n, .int .i64 c, .string y1], fun v ww => v = .agg #[.bool o, .int .i64 n, .int .i64 c, .string y2], fun v ww => RowP ww v [⟨o, n, c, y⟩, ⟨o, n, c, y1⟩, ⟨o, n, c, y2⟩]]) (listF_stable _ ⟨fun _ _ _ _ h => h, fun _ _ _ hk h => h.keep hk, fun _ _ _ _ h => h, fun _ _ _ _ h => h, fun _ _ _ _ h => h, fun _ _ _ hk h => h.keep hk, trivial⟩) (by kernel_rfl) (by kernel_rfl) (by kernel_rfl) (by kernel_rfl) (by kernel_rfl) (by kernel_rfl) (Keep.refl _) ?done6 ?steps6
    case done6 =>
      intro T6 wz6 hJ
      obtain ⟨x0, t0, f0⟩ := hJ.fact 0 36 (by decide) (by kernel_rfl)
      obtain rfl : x0 = .agg #[.string xd, .int .u16 L, .int .u8 g, .slice v0 len cap] := f0
      obtain ⟨x1, t1, f1⟩ := hJ.fact 1 37 (by decide) (by kernel_rfl)
      replace f1 : OwnP wz6 w6.heap.size x1 l0 := f1
      obtain ⟨x2, t2, f2⟩ := hJ.fact 2 38 (by decide) (by kernel_rfl)
      obtain rfl : x2 = .agg #[.bool o, .int .i64 n, .int .i64 c, .string y] := f2
      obtain ⟨x3, t3, f3⟩ := hJ.fact 3 39 (by decide) (by kernel_rfl)
      obtain rfl : x3 = .agg #[.bool o, .int .i64 n, .int .i64 c, .string y1] := f3
      obtain ⟨x4, t4, f4⟩ := hJ.fact 4 40 (by decide) (by kernel_rfl)
      obtain rfl : x4 = .agg #[.bool o, .int .i64 n, .int .i64 c, .string y2] := f4
      obtain ⟨x5, t5, f5⟩ := hJ.fact 5 41 (by decide) (by kernel_rfl)
      replace f5 : RowP wz6 x5 [⟨o, n, c, y⟩, ⟨o, n, c, y1⟩, ⟨o, n, c, y2⟩] := f5
      have hfr := hJ.frameTo [(36, .agg #[.string xd, .int .u16 L, .int .u8 g, .slice v0 len cap]), (37, x1), (38, .agg #[.bool o, .int .i64 n, .int .i64 c, .string y]), (39, .agg #[.bool o, .int .i64 n, .int .i64 c, .string y1]), (40, .agg #[.bool o, .int .i64 n, .int .i64 c, .string y2]), (41, x5)] (by simp [t0, t1, t2, t3, t4, t5]) (by kernel_rfl)
      have G := hJ.keep
      clear hJ t0 t1 t2 t3 t4 t5
      rw [hfr]
      clear hfr T6
      simp only [List.foldl_cons, List.foldl_nil, List.setIfInBounds_toArray, List.set_cons_zero, List.set_cons_succ, List.drop_succ_cons, List.drop_zero]
      go_wp2_with (at_builtin; refine wpList_appendV rfl _ _ 35 rfl w6.heap.size 45 i0 (.agg #[.bool false, .int .i64 0, .int .i64 0, .string ⟨#[]⟩]) 4 40 Try.underlying35 hi hz0 hz1 hz2 rfl (by decide) x1 l0.length (cellsP l0) rfl f1 x5 3 (cellsP [⟨o, n, c, y⟩, ⟨o, n, c, y1⟩, ⟨o, n, c, y2⟩]) rfl (reads_pcs f5) (cellsP_cell _) (by unfold maxLen; omega) (by omega) G.size ?_; intro v7 w7 ho7 hg7)
      go_meet
      exact ⟨Lib.hid (by unfold OwnP; rw [cellsP_append]; simpa using ho7), Lib.hid (G.byRow hg7 (fun j e => (World.ownsRow.lt f1 j e).1))⟩
    case steps6 =>
      refine LinSteps.cons (k := 0) ?_ (LinSteps.cons (k := 1) ?_ (LinSteps.cons (k := 2) ?_ (LinSteps.cons (k := 3) ?_ (LinSteps.cons (k := 4) ?_ (LinSteps.cons (k := 5) ?_ (LinSteps.nil))))))
      · -- 0
        refine LinStep.plain rfl ?_
        intro QQ bb T ww hn hJ hd K HK
        have s4 := (hJ.oldSlot 4 (by kernel_rfl))
        simp only [List.getElem?_toArray, List.getElem?_cons_zero, List.getElem?_cons_succ] at s4
        have G := hJ.keep
        clear hJ hd hn
        have k0 := G.some d0
        have k1 := G.some d1
        have k2 := G.some d2
        have k3 := G.some d3
        go_simp
        exact HK.out _ _ (Keep.refl _) rfl
      · -- 1
        refine LinStep.plain rfl ?_
        intro QQ bb T ww hn hJ hd K HK
        obtain ⟨x0, t0, f0⟩ := hJ.dep hd 0 36 (by kernel_rfl) (by kernel_rfl)
        obtain rfl : x0 = .agg #[.string xd, .int .u16 L, .int .u8 g, .slice v0 len cap] := f0
        have G := hJ.keep
        clear hJ hd hn
        go_wp2_with ((go_at_call 18; ((with_reducible refine (pieces_of xd L g _ gs 30 30 _ _ HX.out.1 HX.out.2.1 HX.out.2.2 HB.out (HV6.out.keep G) rfl (by omega) HL0).mono ?_); rintro e' w7 ⟨u, rfl, ho, hk⟩)))
        exact HK.out _ _ hk (ho.base G.size)
      · -- 2
        refine LinStep.plain rfl ?_
        intro QQ bb T ww hn hJ hd K HK
        have s3 := (hJ.oldSlot 3 (by kernel_rfl))
        simp only [List.getElem?_toArray, List.getElem?_cons_zero, List.getElem?_cons_succ] at s3
        have G := hJ.keep
        clear hJ hd hn
        have k0 := G.some a0
        have k1 := G.some a1
        have k2 := G.some a2'
        have k3 := G.some a3
        go_simp
        exact HK.out _ _ (Keep.refl _) rfl
      · -- 3
        refine LinStep.plain rfl ?_
        intro QQ bb T ww hn hJ hd K HK
        have s7 := (hJ.oldSlot 7 (by kernel_rfl))
        simp only [List.getElem?_toArray, List.getElem?_cons_zero, List.getElem?_cons_succ] at s7
        have G := hJ.keep
        clear hJ hd hn
        have k0 := G.some p0
        have k1 := G.some p1
        have k2 := G.some p2
        have k3 := G.some p3
        go_simp
        exact HK.out _ _ (Keep.refl _) rfl
      · -- 4
        refine LinStep.plain rfl ?_
        intro QQ bb T ww hn hJ hd K HK
        have s8 := (hJ.oldSlot 8 (by kernel_rfl))
        simp only [List.getElem?_toArray, List.getElem?_cons_zero, List.getElem?_cons_succ] at s8
        have G := hJ.keep
        clear hJ hd hn
        have k0 := G.some q0
        have k1 := G.some q1
        have k2 := G.some q2
        have k3 := G.some q3
        go_simp
        exact HK.out _ _ (Keep.refl _) rfl
      · -- 5
        refine LinStep.plain rfl ?_
        intro QQ bb T ww hn hJ hd K HK
        obtain ⟨x2, t2, f2⟩ := hJ.dep hd 2 38 (by kernel_rfl) (by kernel_rfl)
        obtain rfl : x2 = .agg #[.bool o, .int .i64 n, .int .i64 c, .string y] := f2
        obtain ⟨x3, t3, f3⟩ := hJ.dep hd 3 39 (by kernel_rfl) (by kernel_rfl)
        obtain rfl : x3 = .agg #[.bool o, .int .i64 n, .int .i64 c, .string y1] := f3
        obtain ⟨x4, t4, f4⟩ := hJ.dep hd 4 40 (by kernel_rfl) (by kernel_rfl)
        obtain rfl : x4 = .agg #[.bool o, .int .i64 n, .int .i64 c, .string y2] := f4
        have G := hJ.keep
        clear hJ hd hn
        go_simp
        exact HK.out _ _ ((Keep.refl _).alloc _) (rowP3 _ ⟨o, n, c, y⟩ ⟨o, n, c, y1⟩ ⟨o, n, c, y2⟩ _ (by simp))
  obtain ⟨HP, HK7⟩ := hcut
  clear hA6 hD6 hi hz0 hz1 hz2
  have HKW : Hid (Keep w wc) := Lib.hid ((HA.out.2.2.trans HE.out.2.2).trans HK7.out)
  generalize wc = w7 at *
  obtain ⟨l, hl⟩ : ∃ l, l0 ++ [(⟨o, n, c, y⟩ : Pc), ⟨o, n, c, y1⟩, ⟨o, n, c, y2⟩] = l := ⟨_, rfl⟩
  obtain ⟨N, hN⟩ : ∃ N, l.length = N := ⟨_, rfl⟩
  have hN3 : 4 ≤ N ∧ N ≤ 34 := by rw [← hN, ← hl, List.length_append]; simp; omega
  rw [hl] at HP
  clear hl
  obtain ⟨gb, gc, rfl, hgb, hpc⟩ := own_any HP.out (by omega)
  rw [hN]
  have HPC := Lib.hid hpc
  have HO7 := Lib.hid (HO.out.keep HKW.out)
  clear hpc HP HK7 HE HA hgb
  go_wp2
  have hM0 := mg_new w7 43 false 0 0 ⟨#[]⟩
  have k8 := (Keep.refl w7).alloc (.cells #[.bool false, .int .i64 0, .int .i64 0, .string ⟨#[]⟩] 43)
  obtain ⟨M, hMe⟩ : ∃ M, w7.heap.size = M := ⟨_, rfl⟩
  rw [hMe] at hM0 ⊢
  have hMw : w7.heap.size ≤ M := by omega
  generalize (w7.alloc (.cells #[.bool false, .int .i64 0, .int .i64 0, .string ⟨#[]⟩] 43)) = w8 at *
  clear hMe
  go_loopw [11] (fun s11 wr => ∃ (i : Nat) (m : Mg), i ≤ n2 ∧ s11 = .int .i64 i ∧ Hid (MgT 43 wr M m.on m.num m.next m.data ∧ Keep w7 wr ∧ m.okB = true)) (fun i _ => n2 - (intOf i).toNat)
  case atStart => exact ⟨0, zeroM, by omega, rfl, Lib.hid ⟨hM0, k8, zero_ok⟩⟩
  case round =>
    obtain ⟨i, m, hi, rfl, HR⟩ := hrel
    by_cases hlt : i < n2 ∧ i < 40
    · obtain ⟨hi1, hi2⟩ := hlt
      have hi1' : (i : Int) < (n2 : Int) := by omega
      have hi2' : (i : Int) < 40 := by omega
      obtain ⟨ob, oo, rfl, hoc⟩ : ∃ b off, a2 = some ⟨b, off, none⟩ ∧ w7.cell? ⟨b, off + i, none⟩ = some (.int .u8 (os.getD i 0)) := by
        rcases HO7.out with ⟨h, -⟩ | ⟨b, off, n', cap', h1, h2, h3, h4⟩
        · cases h; omega
        · cases h1; exact ⟨b, off, rfl, h4 i hi1⟩
      have hz := HBO.out i
      obtain ⟨z, hze⟩ : ∃ z, os.getD i 0 = z := ⟨_, rfl⟩
      rw [hze] at hoc hz
      obtain ⟨r, hr⟩ : ∃ r : Nat, z % (N : Int) = (r : Int) := ⟨(z % (N : Int)).toNat, by have := Int.emod_nonneg z (show (N : Int) ≠ 0 by omega); omega⟩
      have hrN : r < N := by have := Int.emod_lt_of_pos z (show (0 : Int) < (N : Int) by omega); omega
      have hr1 : z.tmod (N : Int) = (r : Int) := by rw [Int.tmod_eq_emod_of_nonneg hz.1, hr]
      have hz1 : IntKind.i64.wrap z = z := IntWalk.i64_in _ (by omega)
      have hr2 : IntKind.i64.wrap (r : Int) = (r : Int) := IntWalk.i64_in _ (by omega)
      obtain ⟨pp, hpp⟩ : ∃ pp, l[r]? = some pp := RowP.get (by omega)
      have hmok := HR.out.2.2
      have hnok := joinM_ok m pp
      have hends := join_ends (p := pp) hmok
      have hfrm := fun s => join_frame (m := m) (p := pp) (s := s)
      have hstart := join_start (p := pp) hmok
      obtain ⟨nx, hnxe⟩ : ∃ nx, joinM m pp = nx := ⟨_, rfl⟩
      obtain ⟨f9, hf9⟩ : ∃ f, joinS m pp = f := ⟨_, rfl⟩
      obtain ⟨E, hE⟩ : ∃ E, joinE m pp = E := ⟨_, rfl⟩
      rw [hnxe, hf9, hE] at hends hstart
      rw [hnxe] at hnok
      replace hfrm := hfrm f9 hf9
      obtain ⟨q0, q1, q2, q3⟩ := (HPC.out r pp hpp).keep HR.out.2.1
      have hoc := HR.out.2.1.some hoc
      have hM := HR.out.1
      have KK := Lib.hid HR.out.2.1
      obtain ⟨pS, pn, pc, pX⟩ := pp
      obtain ⟨mo, mn, mx, md⟩ := m
      obtain ⟨no, nn, nv, nd⟩ := nx
      have HJ := Lib.hid (And.intro (Lib.hid hnxe) (And.intro (Lib.hid hf9) (Lib.hid hE)))
      have HST := Lib.hid hstart
      dsimp only at q0 q1 q2 q3 hM
      have hMl := mg_lt hM
      clear hnxe hf9 hE hstart hpp hze
      go_upto_region 12 with fail
      have kp := (Keep.refl wr).alloc (.cells #[.bool pS, .int .i64 pn, .int .i64 pc, .string pX] 45)
      have hP := mg_new wr 45 pS pn pc pX
      have hM := mg_k hM kp
      have KK := Lib.hid (KK.out.trans kp)
      obtain ⟨B12, hB12⟩ : ∃ B, wr.heap.size = B := ⟨_, rfl⟩
      rw [hB12] at hP hMl ⊢
      generalize (wr.alloc (.cells #[.bool pS, .int .i64 pn, .int .i64 pc, .string pX] 45)) = w9 at *
      obtain ⟨m0, m1, m2, m3⟩ := mg_cells hM
      obtain ⟨q0, q1, q2, q3⟩ := mg_cells hP
      go_upto_region 13 with (go_at_call 20; ((with_reducible refine (join_is mo mn mx md pS pn pc pX ⟨no, nn, nv, nd⟩ f9 E _ HJ.out.1 HJ.out.2.1 HJ.out.2.2).mono ?_); rintro e' w10 ⟨rfl, k10⟩; dsimp only))
      have kn := k10.alloc (.cells #[.bool no, .int .i64 nn, .int .i64 nv, .string nd] 43)
      have hX := mg_new w10 43 no nn nv nd
      have hM := mg_k hM kn
      have hP := mg_k hP kn
      have KK := Lib.hid (KK.out.trans kn)
      obtain ⟨B13, hB13⟩ : ∃ B, w10.heap.size = B := ⟨_, rfl⟩
      have hPl := mg_lt hP
      have hB1 : B12 < B13 := by
        have := mg_lt (mg_k (show MgT 45 w9 B12 pS pn pc pX by assumption) k10)
        omega
      have hMB : M < B13 := by omega
      rw [hB13] at hX ⊢
      generalize (w10.alloc (.cells #[.bool no, .int .i64 nn, .int .i64 nv, .string nd] 43)) = w11 at *
      obtain ⟨m0, m1, m2, m3⟩ := mg_cells hM
      obtain ⟨q0, q1, q2, q3⟩ := mg_cells hP
      obtain ⟨n0', n1', n2', n3'⟩ := mg_cells hX
      clear kp kn k10 hB12 hB13 HJ
      rcases hends with rfl | ⟨rfl, hnz, rfl⟩
      · have HS1 : Hid (pS = true → Hid (joinM ⟨false, 0, 0, ⟨#[]⟩⟩ ⟨true, pn, pc, pX⟩ = ⟨no, nn, nv, nd⟩) ∧ Hid (joinS ⟨false, 0, 0, ⟨#[]⟩⟩ ⟨true, pn, pc, pX⟩ = f9) ∧ Hid (joinE ⟨false, 0, 0, ⟨#[]⟩⟩ ⟨true, pn, pc, pX⟩ = 0)) := Lib.hid (fun h => by subst h; have h := HST.out rfl; exact ⟨Lib.hid h.1, Lib.hid h.2.1, Lib.hid h.2.2⟩)
        clear HST
        by_cases he9 : f9.toList = []
        · clear hfrm
          cases pS with
          | false =>
            go_wp2_with (first | (refine wpList_store_row rfl 43 _ _ rfl M rfl 43 _ #[.bool no, .int .i64 nn, .int .i64 nv, .string nd] rfl hM rfl (mg_one _ _ _ _) info_merge ?_))
            go_roundw
            case rel => exact ⟨i + 1, ⟨no, nn, nv, nd⟩, by omega, by go_num, Lib.hid ⟨mg_row hM _ _ _ _, KK.out.setRow hMw _, hnok⟩⟩
            case measure => simp [intOf]; omega
          | true =>
            have HS2 := Lib.hid (HS1.out rfl); clear HS1
            go_wp2_with (first | (go_at_call 30; ((with_reducible refine (joins_yes false 0 0 ⟨#[]⟩ true pn pc pX no nn nv nd f9 _ HS2.out.1 HS2.out.2.1 HS2.out.2.2).mono ?_); rintro e' w14 ⟨rfl, k14⟩; have hP := mg_k hP k14; have hX := mg_k hX k14; have hM := mg_k hM k14; have KK := Lib.hid (KK.out.trans k14); obtain ⟨m0, m1, m2, m3⟩ := mg_cells hM; obtain ⟨q0, q1, q2, q3⟩ := mg_cells hP; obtain ⟨n0', n1', n2', n3'⟩ := mg_cells hX)) | (refine wpList_store_row rfl 43 _ _ rfl M rfl 43 _ #[.bool no, .int .i64 nn, .int .i64 nv, .string nd] rfl hM rfl (mg_one _ _ _ _) info_merge ?_))
            go_roundw
            case rel => exact ⟨i + 1, ⟨no, nn, nv, nd⟩, by omega, by go_num, Lib.hid ⟨mg_row hM _ _ _ _, KK.out.setRow hMw _, hnok⟩⟩
            case measure => simp [intOf]; omega
        · have hg : goodS f9 0#32 = true ∧ 64 ≤ f9.size ∧ f9.size ≤ 1522 ∧ Lib.hasSuffix f9.data.toList pX.data.toList = true := by
            rcases hfrm with h | h
            · exact absurd (by rw [h]; first | kernel_rfl | (unfold ByteArray.toList ByteArray.toList.loop; rfl) | simp [ByteArray.toList, ByteArray.toList.loop]) he9
            · exact h
          have HGD := Lib.hid hg.1
          have HSF := Lib.hid hg.2.2.2
          have hf1 : ¬ (f9.size : Int) < 64 := by have := hg.2.1; omega
          have hf2 : ¬ (f9.size : Int) > 1522 := by have := hg.2.2.1; omega
          have hf3 : ¬ 1522 < (f9.size : Int) := by have := hg.2.2.1; omega
          have hfz : f9.size ≤ 100000 := by have := hg.2.2.1; omega
          clear hfrm hg
          cases pS with
          | false =>
            go_wp2_with (first | (go_at_call 28; ((with_reducible refine (good_is f9 true _ hfz HGD).mono ?_); rintro e' w12 ⟨rfl, k12⟩; have hP := mg_k hP k12; have hX := mg_k hX k12; have hM := mg_k hM k12; have KK := Lib.hid (KK.out.trans k12); obtain ⟨m0, m1, m2, m3⟩ := mg_cells hM; obtain ⟨q0, q1, q2, q3⟩ := mg_cells hP; obtain ⟨n0', n1', n2', n3'⟩ := mg_cells hX)) | (go_at_call 29; ((with_reducible refine (Try.strings_HasSuffix f9 pX _ (by omega)).mono ?_); rintro e' w13 ⟨rfl, rfl⟩; rw [HSF.out])) | (refine wpList_store_row rfl 43 _ _ rfl M rfl 43 _ #[.bool no, .int .i64 nn, .int .i64 nv, .string nd] rfl hM rfl (mg_one _ _ _ _) info_merge ?_))
            go_roundw
            case rel => exact ⟨i + 1, ⟨no, nn, nv, nd⟩, by omega, by go_num, Lib.hid ⟨mg_row hM _ _ _ _, KK.out.setRow hMw _, hnok⟩⟩
            case measure => simp [intOf]; omega
          | true =>
            have HS2 := Lib.hid (HS1.out rfl); clear HS1
            go_wp2_with (first | (go_at_call 28; ((with_reducible refine (good_is f9 true _ hfz HGD).mono ?_); rintro e' w12 ⟨rfl, k12⟩; have hP := mg_k hP k12; have hX := mg_k hX k12; have hM := mg_k hM k12; have KK := Lib.hid (KK.out.trans k12); obtain ⟨m0, m1, m2, m3⟩ := mg_cells hM; obtain ⟨q0, q1, q2, q3⟩ := mg_cells hP; obtain ⟨n0', n1', n2', n3'⟩ := mg_cells hX)) | (go_at_call 29; ((with_reducible refine (Try.strings_HasSuffix f9 pX _ (by omega)).mono ?_); rintro e' w13 ⟨rfl, rfl⟩; rw [HSF.out])) | (go_at_call 30; ((with_reducible refine (joins_yes false 0 0 ⟨#[]⟩ true pn pc pX no nn nv nd f9 _ HS2.out.1 HS2.out.2.1 HS2.out.2.2).mono ?_); rintro e' w14 ⟨rfl, k14⟩; have hP := mg_k hP k14; have hX := mg_k hX k14; have hM := mg_k hM k14; have KK := Lib.hid (KK.out.trans k14); obtain ⟨m0, m1, m2, m3⟩ := mg_cells hM; obtain ⟨q0, q1, q2, q3⟩ := mg_cells hP; obtain ⟨n0', n1', n2', n3'⟩ := mg_cells hX)) | (refine wpList_store_row rfl 43 _ _ rfl M rfl 43 _ #[.bool no, .int .i64 nn, .int .i64 nv, .string nd] rfl hM rfl (mg_one _ _ _ _) info_merge ?_))
            go_roundw
            case rel => exact ⟨i + 1, ⟨no, nn, nv, nd⟩, by omega, by go_num, Lib.hid ⟨mg_row hM _ _ _ _, KK.out.setRow hMw _, hnok⟩⟩
            case measure => simp [intOf]; omega
      · cases hnz
        go_wp2
        go_roundw
        case rel => exact ⟨i + 1, ⟨mo, mn, mx, md⟩, by omega, by go_num, Lib.hid ⟨hM, KK.out, hmok⟩⟩
        case measure => simp [intOf]; omega
    · have hcond : ¬ ((i : Int) < (n2 : Int)) ∨ ((i : Int) < (n2 : Int) ∧ ¬ ((i : Int) < 40)) := by omega
      rcases hcond with hc1 | ⟨hc1, hc2⟩
      · go_wp2
        go_ret
        exact ⟨rfl, HKW.out.trans HR.out.2.1⟩
      · go_wp2
        go_ret
        exact ⟨rfl, HKW.out.trans HR.out.2.1⟩
end Go.Proofs.Ytgejpbgpgklimaa
