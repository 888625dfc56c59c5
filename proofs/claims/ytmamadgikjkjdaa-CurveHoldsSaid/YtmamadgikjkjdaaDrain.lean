/- What Drain of the package curve returns: the latest departures of a valid trace, each out of the one ahead of it. -/
import Derived.Test.YtmamadgikjkjdaaJoin
import Derived.Test.YtmamadgikjkjdaaConf
import Derived.Test.YtmamadgikjkjdaaTail
namespace Go.Proofs.Ytmamadgikjkjdaa
open Go Go.RowKit

/-- When the work of the first k frames is done, in parts of a tick. -/
def doneS (a s : Nat → Int) (R : Int) : Nat → Int
  | 0 => 0
  | k + 1 => max (max 0 (doneS a s R k)) (a k * R) + s k * 1048576
theorem doneS_bd {a s : Nat → Int} {R : Int} {n : Nat} (h : okSteps a s n = true) (hR : 1 ≤ R ∧ R ≤ 2097152) : ∀ k, k ≤ n → 0 ≤ doneS a s R k ∧ doneS a s R k ≤ 2305843009213693952 + k * 1099511627776
  | 0, _ => by simp [doneS]
  | k + 1, hk => by
    have ih := doneS_bd h hR k (by omega)
    have bd := okSteps_bd h k (by omega)
    have p := prod_bd bd.1 bd.2.1 (show 0 ≤ R by omega) hR.2
    simp only [doneS]
    omega
def drainK (a s : Nat → Int) (R L : Int) (k : Nat) : List Int := (List.range k).map fun j => L + ceilD (doneS a s R (j + 1)) R
theorem drainK_succ (a s : Nat → Int) (R L : Int) (k : Nat) : drainK a s R L (k + 1) = drainK a s R L k ++ [L + ceilD (doneS a s R (k + 1)) R] := by unfold drainK; rw [List.range_succ, List.map_append]; rfl
theorem drainK_len (a s : Nat → Int) (R L : Int) (k : Nat) : (drainK a s R L k).length = k := by simp [drainK]
def drainL (l : List (Int × Int)) (R L : Int) : List Int := drainK (atL l) (szL l) R L l.length
/-- Drain's results. -/
def drainR (l : List (Int × Int)) (R L : Int) : List Int × Int := if okT l then (if okSv R L then (drainL l R L, 0) else ([], 140)) else ([], 131)
/-- A slice that reads as a list, and an error. -/
def Ints (r : List Int × Int) (w : World) (e : Ending) (w' : World) : Prop := ∃ v, e = .returned (.tuple #[v, .int .i64 r.2]) ∧ ListAt w' v r.1 ∧ Keep w w'

def pair2 (x y : Int) (j : Nat) : Int := if j = 0 then x else y
theorem two_le {x y B : Int} (h0 : x ≤ B) (h1 : y ≤ B) : ∀ j, j < 2 → pair2 x y j ≤ B := fun j _ => by unfold pair2; split <;> assumption
theorem two_cells {w : World} {b : Nat} {x y : Int} (h0 : w.cell? ⟨b, 0, none⟩ = some (.int .i64 x)) (h1 : w.cell? ⟨b, 1, none⟩ = some (.int .i64 y)) : ∀ j, j < 2 → w.cell? ⟨b, 0 + j, none⟩ = some (.int .i64 (pair2 x y j)) := fun j hj => by
  obtain rfl | rfl : j = 0 ∨ j = 1 := by omega
  · exact h0
  · exact h1
theorem infoInt : (Try.prog.info? 3).map (fun i => (i.zero, i.size, i.bytes)) = some (some (.int .i64 0), 1, 8) := by kernel_rfl
theorem cells_one {w : World} {Y : Nat} {a : Value} (h0 : w.cell? ⟨Y, 0, none⟩ = some a) : ∀ (j : Nat) u, [a][j]? = some u → w.cell? ((⟨Y, 0, none⟩ : Addr).add j) = some u := by
  intro j u hj
  match j, hj with
  | 0, hj => simp at hj; subst hj; simpa [Addr.add] using h0
  | j + 1, hj => simp at hj
theorem listAt_owns {w : World} {base e n : Nat} {v : Value} {zs : List Int} (h : w.ownsRow base e 1 v n (zs.map (Value.int .i64))) : ListAt w v zs := by
  have h' := h
  obtain ⟨h0, ⟨rfl, rfl⟩ | ⟨g, cap, cur, rfl, hb, hg, hn, hc, hs, ht⟩⟩ := h
  · refine Or.inl ⟨rfl, ?_⟩
    cases zs with
    | nil => rfl
    | cons _ _ => simp at h0
  · have hl : zs.length = n := by simp at h0; omega
    refine Or.inr ⟨g, 0, n, cap, rfl, hl, by unfold maxLen at hc; omega, fun j hj => ?_⟩
    rw [Nat.zero_add, h'.cellAt j (by simpa using by omega)]
    simp [List.getD, hl, hj]
theorem row_cells {w : World} {a0 : Option Addr} {n cap : Nat} {l : List (Int × Int)} (h : RowAt w (.slice a0 n cap) l) : l.length = n ∧ ∀ j, j < n → ∃ b off, a0 = some ⟨b, off, none⟩ ∧ w.cell? ⟨b, off + j * 2, none⟩ = some (.int .i64 (atL l j)) ∧ w.cell? ⟨b, off + j * 2 + 1, none⟩ = some (.int .i64 (szL l j)) := by
  rcases h with ⟨h1, h2⟩ | ⟨b, off, m, c, h1, h2, h3, h4, h5⟩
  · cases h1
    subst h2
    exact ⟨rfl, fun j hj => by omega⟩
  · cases h1
    exact ⟨h2, fun j hj => ⟨b, off, rfl, h4 j hj, h5 j hj⟩⟩
theorem ceil_div {x R q : Int} (hx : 0 ≤ x) (hR : 1 ≤ R) (hq : ceilD x R = q) : (x + R - 1).tdiv R = q := by
  rw [Int.tdiv_eq_ediv_of_nonneg (by omega)]
  have h1 := le_ceilD (n := x) (d := R) (by omega)
  have h2 := ceilD_lt (n := x) (d := R) (by omega)
  rw [hq] at h1 h2
  have e : x + R - 1 = (x + R - 1 - q * R) + q * R := by omega
  rw [e, Int.add_mul_ediv_right _ _ (by omega), Int.ediv_eq_zero_of_lt (by omega) (by omega)]
  omega

set_option maxRecDepth 100000 in
set_option maxHeartbeats 4000000 in
theorem drain_slice (a0 : Option Addr) (n cap : Nat) (l : List (Int × Int)) (R L : Int) (V : List Int × Int) (w : World) (h : Hid (RowAt w (.slice a0 n cap) l)) (H : Hid (drainR l R L = V)) :
    Calls Try.prog 40 #[.slice a0 n cap, .agg #[.int .i64 R, .int .i64 L]] w (Ints V w) := by
  have hmf : ∀ (fn : Fn) (first cap : Array Value) (w : World), (Instr.makeFunc fn first cap).run Try.prog w = .ok (.func fn first cap) w := fun _ _ _ _ => rfl
  obtain ⟨i0, hi, hz0, hz1, hz2⟩ := info_parts infoInt
  obtain ⟨W0, hW0⟩ : ∃ W0, (w.alloc (.cells #[.slice a0 n cap] 32)).alloc (.cells #[.int .i64 R, .int .i64 L] 54) = W0 := ⟨_, rfl⟩
  have k0 : Keep w W0 := by rw [← hW0]; exact (Keep.alloc (Keep.refl w) _).alloc _
  have hsz : W0.heap.size = w.heap.size + 1 + 1 := by rw [← hW0]; simp
  have s0 : W0.cell? ⟨w.heap.size, 0, none⟩ = some (.slice a0 n cap) := by rw [← hW0]; simp [go_sem]
  have r0 : W0.cell? ⟨w.heap.size + 1, 0, none⟩ = some (.int .i64 R) := by rw [← hW0]; simp [go_sem]
  have l0 : W0.cell? ⟨w.heap.size + 1, 1, none⟩ = some (.int .i64 L) := by rw [← hW0]; simp [go_sem]
  have HF : ∀ V, Hid ((if traceE l = 0 then serveE R L else traceE l) = V) → Calls Try.prog 52 #[.slice (some ⟨w.heap.size + 1 + 1, 0, none⟩) 2 2] (W0.alloc (.cells #[.func (.func 63) #[] #[.pointer (some ⟨w.heap.size, 0, none⟩)], .func (.func 64) #[] #[.pointer (some ⟨w.heap.size + 1, 0, none⟩)]] 97)) (Res (.int .i64 V) (W0.alloc (.cells #[.func (.func 63) #[] #[.pointer (some ⟨w.heap.size, 0, none⟩)], .func (.func 64) #[] #[.pointer (some ⟨w.heap.size + 1, 0, none⟩)]] 97))) := fun V HV =>
    firstError2_is W0 _ _ _ _ _ _ _ _ V (by omega) (enters_of Try.func63 (by kernel_rfl) rfl) (enters_of Try.func64 (by kernel_rfl) rfl) (fun W' hW => closDrain1_is _ n cap a0 l _ W' (hW.some s0) (Lib.hid (h.out.keep (k0.trans hW))) (Lib.hid rfl)) (fun W' hW _ => closDrain2_is _ R L _ W' (hW.some r0) (hW.some l0) (Lib.hid rfl)) HV
  have hd := H.out
  unfold drainR at hd
  have bad : ∀ Er : Int, Er ≠ 0 → (if traceE l = 0 then serveE R L else traceE l) = Er → V = ([], Er) → Calls Try.prog 40 #[.slice a0 n cap, .agg #[.int .i64 R, .int .i64 L]] w (Ints V w) := by
    intro Er hne he hV
    subst hV
    have HC := Lib.hid (HF Er (Lib.hid he))
    have e1 : (Er == 0) = false := by simp [hne]
    have e2 : (Er != 0) = true := by simp [hne]
    clear HF hd H he
    go_enter Try.func40, Try.ntmps40
    go_wp2_with fail
    clear hW0
    go_at_call 52
    refine (HC.out).mono ?_
    rintro e w1 ⟨rfl, k1⟩
    go_wp2
    go_ret2
    exact ⟨_, rfl, Or.inl ⟨rfl, rfl⟩, (k0.alloc _).trans k1⟩
  cases ht : okT l with
  | false =>
    rw [ht] at hd
    exact bad 131 (by decide) (by unfold traceE; rw [ht]; rfl) hd.symm
  | true =>
    have hte : traceE l = 0 := by unfold traceE; rw [ht]; rfl
    rw [ht, if_pos rfl] at hd
    cases hsv : okSv R L with
    | false =>
      rw [hsv] at hd
      exact bad 140 (by decide) (by rw [if_pos hte]; unfold serveE; rw [hsv]; rfl) hd.symm
    | true =>
      rw [hsv, if_pos rfl] at hd
      have sv := okSv_iff.1 hsv
      have hR : 1 ≤ R ∧ R ≤ 2097152 := ⟨sv.1, sv.2.1⟩
      have HC := Lib.hid (HF 0 (Lib.hid (by rw [if_pos hte]; unfold serveE; rw [hsv]; rfl)))
      have HV := Lib.hid hd
      have HT := Lib.hid (okT_iff.1 ht)
      have hrow := row_cells h.out
      have HL := Lib.hid hrow.1
      have HRW := Lib.hid hrow.2
      have hn : n ≤ 200 := by rw [← hrow.1]; exact HT.out.1
      clear bad HF hd H ht hte hsv hrow h
      go_enter Try.func40, Try.ntmps40
      go_wp2_with fail
      clear hW0
      go_at_call 52
      refine (HC.out).mono ?_
      rintro e Wm ⟨rfl, k1⟩
      have km := (Keep.alloc (Keep.refl W0) (.cells #[.func (.func 63) #[] #[.pointer (some ⟨w.heap.size, 0, none⟩)], .func (.func 64) #[] #[.pointer (some ⟨w.heap.size + 1, 0, none⟩)]] 97)).trans k1
      have s0 := km.some s0
      have r0 := km.some r0
      have l0 := km.some l0
      have KM := Lib.hid (k0.trans km)
      clear k1 km k0 hsz
      have hb0 := cellBlock s0
      have hb1 := cellBlock r0
      go_wp2_with (at_make; refine wpList_make_own _ rfl _ _ 74 rfl Wm.heap.size 3 i0 (.int .i64 0) 1 Try.underlying74 hi hz0 hz1 .i64 .i64 _ n rfl rfl rfl (by rw [hz2]; omega) (by unfold maxLen; omega) (Nat.le_refl _) ?_; intro wk hown0 hgrow0; have kq := Keep.by (Keep.refl Wm) hgrow0; have s0 := kq.some s0)
      have KQ := Lib.hid kq
      have HO0 := Lib.hid hown0
      clear kq hown0 hgrow0 s0
      go_loopw [7, 8, 23] (fun s7 s8 s23 wr => ∃ (k : Nat) (dn : Int), k ≤ n ∧ s23 = .int .i64 k ∧ s8 = .int .i64 dn ∧ (0 ≤ dn ∧ dn ≤ 2305843009213693952 + 200 * 1099511627776) ∧ Hid (doneS (atL l) (szL l) R k = dn ∧ wr.ownsRow Wm.heap.size 3 1 s7 k ((drainK (atL l) (szL l) R L k).map (Value.int .i64)) ∧ Keep Wm wr)) (fun _ _ i _ => n - (intOf i).toNat)
      case atStart => exact ⟨0, 0, Nat.zero_le _, rfl, rfl, by omega, Lib.hid ⟨rfl, HO0.out, KQ.out⟩⟩
      case round =>
        obtain ⟨k, dn, hk, rfl, rfl, hdn, HR⟩ := hrel
        by_cases hlt : k < n
        · obtain ⟨b, off, rfl, c0, c1⟩ := HRW.out k hlt
          have bd := okSteps_bd HT.out.2 k (by rw [HL.out]; exact hlt)
          have db := doneS_bd HT.out.2 hR (k + 1) (by rw [HL.out]; omega)
          have eD : doneS (atL l) (szL l) R (k + 1) = max (max 0 (doneS (atL l) (szL l) R k)) (atL l k * R) + szL l k * 1048576 := rfl
          have c0 := HR.out.2.2.some (KM.out.some c0)
          have c1 := HR.out.2.2.some (KM.out.some c1)
          have r0 := HR.out.2.2.some r0
          have l0 := HR.out.2.2.some l0
          obtain ⟨x, hx⟩ : ∃ x, atL l k = x := ⟨_, rfl⟩
          obtain ⟨y, hy⟩ : ∃ y, szL l k = y := ⟨_, rfl⟩
          rw [hx, hy, HR.out.1] at eD
          rw [hx, hy] at bd
          rw [hx] at c0
          rw [hy] at c1
          clear hx hy
          have px := prod_bd bd.1 bd.2.1 (show 0 ≤ R by omega) hR.2
          obtain ⟨T, hT⟩ : ∃ T, x * R = T := ⟨_, rfl⟩
          obtain ⟨Z, hZ⟩ : ∃ Z, y * 1048576 = Z := ⟨_, rfl⟩
          have bZ : 0 ≤ Z ∧ Z ≤ 1099511627776 := by omega
          rw [hT] at eD px
          rw [hZ] at eD
          obtain ⟨dn', hdn'⟩ : ∃ dn', doneS (atL l) (szL l) R (k + 1) = dn' := ⟨_, rfl⟩
          rw [hdn'] at eD db
          have HD' := Lib.hid hdn'
          have bdn : 0 ≤ dn' ∧ dn' ≤ 2305843009213693952 + 200 * 1099511627776 := by omega
          obtain ⟨q, hq⟩ : ∃ q, ceilD dn' R = q := ⟨_, rfl⟩
          have HQ := Lib.hid hq
          have HTD := Lib.hid (ceil_div bdn.1 hR.1 hq)
          have hq0 : 0 ≤ q := by rw [← hq]; exact ceilD_nonneg (by omega) bdn.1
          have hq1 : q ≤ 2305843009213693952 + 200 * 1099511627776 := by rw [← hq]; exact ceilD_le (by omega) (by have : dn' * 1 ≤ dn' * R := Int.mul_le_mul_of_nonneg_left hR.1 bdn.1; have : (2305843009213693952 + 200 * 1099511627776 : Int) * 1 ≤ (2305843009213693952 + 200 * 1099511627776) * R := Int.mul_le_mul_of_nonneg_left hR.1 (by omega); omega)
          have HE : Hid (mx0 (pair2 dn T) 2 + Z = dn') := Lib.hid (by rw [eD]; rfl)
          clear hdn' hq eD db
          have hbk := cellBlock c0
          have hbr := cellBlock r0
          go_upto_region 10 with (go_at_call 65; ((with_reducible refine (finish_any (wr.heap.size + 1) 0 2 2 (pair2 dn T) Z dn' _ (by omega) (two_cells (by simp [go_sem]) (by simp [go_sem])) (two_le (by omega) (by omega)) (by omega) HE (by omega)).mono ?_); rintro e w' ⟨rfl, rfl⟩))
          have HO := Lib.hid (ownsKeep HR.out.2.1 ((Keep.alloc (Keep.refl wr) (.cells #[.int .i64 x, .int .i64 y] 35)).alloc (.cells #[.int .i64 dn, .int .i64 T] 3)))
          have HKm := Lib.hid ((HR.out.2.2.alloc (.cells #[.int .i64 x, .int .i64 y] 35)).alloc (.cells #[.int .i64 dn, .int .i64 T] 3))
          have r0 := cell_alloc_old (.cells #[.int .i64 dn, .int .i64 T] 3) (cell_alloc_old (.cells #[.int .i64 x, .int .i64 y] 35) r0)
          have l0 := cell_alloc_old (.cells #[.int .i64 dn, .int .i64 T] 3) (cell_alloc_old (.cells #[.int .i64 x, .int .i64 y] 35) l0)
          generalize hWr : (wr.alloc (.cells #[.int .i64 x, .int .i64 y] 35)).alloc (.cells #[.int .i64 dn, .int .i64 T] 3) = Wr at HO HKm r0 l0 ⊢
          clear hWr c0 c1 hbk HE
          refine region_tail (h := 13) (W0 := Wr) (listF [fun v ww => v = u7, fun v ww => v = .pointer (some ⟨(w.heap.size + 1), 1, none⟩), fun v ww => v = .int .i64 L, fun v ww => v = .int .i64 dn', fun v ww => v = .pointer (some ⟨(w.heap.size + 1), 0, none⟩), fun v ww => v = .int .i64 R, fun v ww => v = .int .i64 (dn' + R), fun v ww => v = .int .i64 (dn' + R - 1), fun v ww => v = .pointer (some ⟨(w.heap.size + 1), 0, none⟩), fun v ww => v = .int .i64 R, fun v ww => v = .int .i64 q, fun v ww => v = .int .i64 (L + q), fun v ww => ∃ Y, v = .slice (some ⟨Y, 0, none⟩) 1 1 ∧ ww.cell? ⟨Y, 0, none⟩ = some (.int .i64 (L + q))]) (listF_stable _ ⟨fun _ _ _ _ h => h, fun _ _ _ _ h => h, fun _ _ _ _ h => h, fun _ _ _ _ h => h, fun _ _ _ _ h => h, fun _ _ _ _ h => h, fun _ _ _ _ h => h, fun _ _ _ _ h => h, fun _ _ _ _ h => h, fun _ _ _ _ h => h, fun _ _ _ _ h => h, fun _ _ _ _ h => h, fun _ _ _ hk ⟨Y, h1, h2⟩ => ⟨Y, h1, hk.some h2⟩, trivial⟩) (by kernel_rfl) (by kernel_rfl) (by kernel_rfl) (by kernel_rfl) (by kernel_rfl) (by kernel_rfl) (Keep.refl _) ?done ?steps
          case done =>
            intro T wz hJ
            obtain ⟨x0, t0, f0⟩ := hJ.fact 0 38 (by decide) (by kernel_rfl)
            obtain rfl : u7 = x0 := f0.symm
            obtain ⟨x1, t1, f1⟩ := hJ.fact 1 39 (by decide) (by kernel_rfl)
            obtain rfl : x1 = .pointer (some ⟨(w.heap.size + 1), 1, none⟩) := f1
            obtain ⟨x2, t2, f2⟩ := hJ.fact 2 40 (by decide) (by kernel_rfl)
            obtain rfl : x2 = .int .i64 L := f2
            obtain ⟨x3, t3, f3⟩ := hJ.fact 3 41 (by decide) (by kernel_rfl)
            obtain rfl : x3 = .int .i64 dn' := f3
            obtain ⟨x4, t4, f4⟩ := hJ.fact 4 42 (by decide) (by kernel_rfl)
            obtain rfl : x4 = .pointer (some ⟨(w.heap.size + 1), 0, none⟩) := f4
            obtain ⟨x5, t5, f5⟩ := hJ.fact 5 43 (by decide) (by kernel_rfl)
            obtain rfl : x5 = .int .i64 R := f5
            obtain ⟨x6, t6, f6⟩ := hJ.fact 6 44 (by decide) (by kernel_rfl)
            obtain rfl : x6 = .int .i64 (dn' + R) := f6
            obtain ⟨x7, t7, f7⟩ := hJ.fact 7 45 (by decide) (by kernel_rfl)
            obtain rfl : x7 = .int .i64 (dn' + R - 1) := f7
            obtain ⟨x8, t8, f8⟩ := hJ.fact 8 46 (by decide) (by kernel_rfl)
            obtain rfl : x8 = .pointer (some ⟨(w.heap.size + 1), 0, none⟩) := f8
            obtain ⟨x9, t9, f9⟩ := hJ.fact 9 47 (by decide) (by kernel_rfl)
            obtain rfl : x9 = .int .i64 R := f9
            obtain ⟨x10, t10, f10⟩ := hJ.fact 10 48 (by decide) (by kernel_rfl)
            obtain rfl : x10 = .int .i64 q := f10
            obtain ⟨x11, t11, f11⟩ := hJ.fact 11 49 (by decide) (by kernel_rfl)
            obtain rfl : x11 = .int .i64 (L + q) := f11
            obtain ⟨x12, t12, f12⟩ := hJ.fact 12 50 (by decide) (by kernel_rfl)
            replace f12 : ∃ Y, x12 = .slice (some ⟨Y, 0, none⟩) 1 1 ∧ wz.cell? ⟨Y, 0, none⟩ = some (.int .i64 (L + q)) := f12
            have hfr := hJ.frameTo [(38, u7), (39, .pointer (some ⟨(w.heap.size + 1), 1, none⟩)), (40, .int .i64 L), (41, .int .i64 dn'), (42, .pointer (some ⟨(w.heap.size + 1), 0, none⟩)), (43, .int .i64 R), (44, .int .i64 (dn' + R)), (45, .int .i64 (dn' + R - 1)), (46, .pointer (some ⟨(w.heap.size + 1), 0, none⟩)), (47, .int .i64 R), (48, .int .i64 q), (49, .int .i64 (L + q)), (50, x12)] (by simp [t0, t1, t2, t3, t4, t5, t6, t7, t8, t9, t10, t11, t12]) (by kernel_rfl)
            have G := hJ.keep
            clear hJ t0 t1 t2 t3 t4 t5 t6 t7 t8 t9 t10 t11 t12
            rw [hfr]
            clear hfr T
            simp only [List.foldl_cons, List.foldl_nil, List.setIfInBounds_toArray, List.set_cons_zero, List.set_cons_succ, List.drop_succ_cons, List.drop_zero]
            obtain ⟨Y, rfl, hy⟩ := f12
            have hown0 := ownsKeep HO.out G
            have kk := Lib.hid (HKm.out.trans G)
            go_wp2_with (at_builtin; refine wpList_append_lies _ rfl _ _ 74 rfl Wm.heap.size 3 i0 (.int .i64 0) 1 8 Try.underlying74 hi hz0 hz1 hz2 rfl (by decide) _ _ _ rfl hown0 ⟨Y, 0, none⟩ 1 1 [.int .i64 (L + q)] rfl rfl (cells_one hy) (by intro u hu; simp at hu; subst hu; rfl) (by omega) (by unfold maxLen; omega) (by omega) (by have := kk.out.size; omega) _ rfl ?_; intro g3 cap3 w3 hown3 hgrow3 _ _)
            go_roundw
            case rel => exact ⟨k + 1, dn', by omega, rfl, rfl, by omega, Lib.hid ⟨HD'.out, by rw [drainK_succ, List.map_append, HD'.out, HQ.out]; exact hown3, kk.out.byRow hgrow3 (fun j hj => (hown0.lt j hj).1)⟩⟩
            case measure => simp [intOf]; omega
          case steps =>
            refine LinSteps.cons (k := 0) ?_ (LinSteps.cons (k := 1) ?_ (LinSteps.cons (k := 2) ?_ (LinSteps.cons (k := 3) ?_ (LinSteps.cons (k := 4) ?_ (LinSteps.cons (k := 5) ?_ (LinSteps.cons (k := 6) ?_ (LinSteps.cons (k := 7) ?_ (LinSteps.cons (k := 8) ?_ (LinSteps.cons (k := 9) ?_ (LinSteps.cons (k := 10) ?_ (LinSteps.cons (k := 11) ?_ (LinSteps.cons (k := 12) ?_ (LinSteps.nil)))))))))))))
            · -- 0
              refine LinStep.plain rfl ?_
              intro QQ bb T ww hn hJ hd K HK
              have s7 := (hJ.yetSlot 7 0 14 (by kernel_rfl) (by kernel_rfl) hn _ rfl (by kernel_rfl))
              simp only [List.getElem?_toArray, List.getElem?_cons_zero, List.getElem?_cons_succ] at s7
              have G := hJ.keep
              clear hJ hd hn
              go_simp
              exact HK.out _ _ (Keep.refl _) rfl
            · -- 1
              refine LinStep.plain rfl ?_
              intro QQ bb T ww hn hJ hd K HK
              have s3 := (hJ.oldSlot 3 (by kernel_rfl))
              simp only [List.getElem?_toArray, List.getElem?_cons_zero, List.getElem?_cons_succ] at s3
              have G := hJ.keep
              clear hJ hd hn
              go_simp
              exact HK.out _ _ (Keep.refl _) rfl
            · -- 2
              refine LinStep.plain rfl ?_
              intro QQ bb T ww hn hJ hd K HK
              obtain ⟨x1, t1, f1⟩ := hJ.dep hd 1 39 (by kernel_rfl) (by kernel_rfl)
              obtain rfl : x1 = .pointer (some ⟨(w.heap.size + 1), 1, none⟩) := f1
              have G := hJ.keep
              clear hJ hd hn
              have k0 := G.some l0
              go_simp
              exact HK.out _ _ (Keep.refl _) rfl
            · -- 3
              refine LinStep.plain rfl ?_
              intro QQ bb T ww hn hJ hd K HK
              have s8 := (hJ.oldSlot 8 (by kernel_rfl))
              simp only [List.getElem?_toArray, List.getElem?_cons_zero, List.getElem?_cons_succ] at s8
              have G := hJ.keep
              clear hJ hd hn
              go_simp
              exact HK.out _ _ (Keep.refl _) rfl
            · -- 4
              refine LinStep.plain rfl ?_
              intro QQ bb T ww hn hJ hd K HK
              have s3 := (hJ.oldSlot 3 (by kernel_rfl))
              simp only [List.getElem?_toArray, List.getElem?_cons_zero, List.getElem?_cons_succ] at s3
              have G := hJ.keep
              clear hJ hd hn
              go_simp
              exact HK.out _ _ (Keep.refl _) rfl
            · -- 5
              refine LinStep.plain rfl ?_
              intro QQ bb T ww hn hJ hd K HK
              obtain ⟨x4, t4, f4⟩ := hJ.dep hd 4 42 (by kernel_rfl) (by kernel_rfl)
              obtain rfl : x4 = .pointer (some ⟨(w.heap.size + 1), 0, none⟩) := f4
              have G := hJ.keep
              clear hJ hd hn
              have k0 := G.some r0
              go_simp
              exact HK.out _ _ (Keep.refl _) rfl
            · -- 6
              refine LinStep.plain rfl ?_
              intro QQ bb T ww hn hJ hd K HK
              obtain ⟨x3, t3, f3⟩ := hJ.dep hd 3 41 (by kernel_rfl) (by kernel_rfl)
              obtain rfl : x3 = .int .i64 dn' := f3
              obtain ⟨x5, t5, f5⟩ := hJ.dep hd 5 43 (by kernel_rfl) (by kernel_rfl)
              obtain rfl : x5 = .int .i64 R := f5
              have G := hJ.keep
              clear hJ hd hn
              have e1 : IntKind.i64.wrap (dn' + R) = dn' + R := IntWalk.i64_in _ (by omega)
              go_simp
              exact HK.out _ _ (Keep.refl _) rfl
            · -- 7
              refine LinStep.plain rfl ?_
              intro QQ bb T ww hn hJ hd K HK
              obtain ⟨x6, t6, f6⟩ := hJ.dep hd 6 44 (by kernel_rfl) (by kernel_rfl)
              obtain rfl : x6 = .int .i64 (dn' + R) := f6
              have G := hJ.keep
              clear hJ hd hn
              have e1 : IntKind.i64.wrap (dn' + R - 1) = dn' + R - 1 := IntWalk.i64_in _ (by omega)
              go_simp
              exact HK.out _ _ (Keep.refl _) rfl
            · -- 8
              refine LinStep.plain rfl ?_
              intro QQ bb T ww hn hJ hd K HK
              have s3 := (hJ.oldSlot 3 (by kernel_rfl))
              simp only [List.getElem?_toArray, List.getElem?_cons_zero, List.getElem?_cons_succ] at s3
              have G := hJ.keep
              clear hJ hd hn
              go_simp
              exact HK.out _ _ (Keep.refl _) rfl
            · -- 9
              refine LinStep.plain rfl ?_
              intro QQ bb T ww hn hJ hd K HK
              obtain ⟨x8, t8, f8⟩ := hJ.dep hd 8 46 (by kernel_rfl) (by kernel_rfl)
              obtain rfl : x8 = .pointer (some ⟨(w.heap.size + 1), 0, none⟩) := f8
              have G := hJ.keep
              clear hJ hd hn
              have k0 := G.some r0
              go_simp
              exact HK.out _ _ (Keep.refl _) rfl
            · -- 10
              refine LinStep.plain rfl ?_
              intro QQ bb T ww hn hJ hd K HK
              obtain ⟨x7, t7, f7⟩ := hJ.dep hd 7 45 (by kernel_rfl) (by kernel_rfl)
              obtain rfl : x7 = .int .i64 (dn' + R - 1) := f7
              obtain ⟨x9, t9, f9⟩ := hJ.dep hd 9 47 (by kernel_rfl) (by kernel_rfl)
              obtain rfl : x9 = .int .i64 R := f9
              have G := hJ.keep
              clear hJ hd hn
              have hR0 : ¬ R = 0 := by omega
              have hR1 : (R == 0) = false := by simp; omega
              have e2 : (dn' + R - 1).tdiv R = q := HTD.out
              have e1 : IntKind.i64.wrap q = q := IntWalk.i64_in _ (by omega)
              go_simp
              exact HK.out _ _ (Keep.refl _) rfl
            · -- 11
              refine LinStep.plain rfl ?_
              intro QQ bb T ww hn hJ hd K HK
              obtain ⟨x2, t2, f2⟩ := hJ.dep hd 2 40 (by kernel_rfl) (by kernel_rfl)
              obtain rfl : x2 = .int .i64 L := f2
              obtain ⟨x10, t10, f10⟩ := hJ.dep hd 10 48 (by kernel_rfl) (by kernel_rfl)
              obtain rfl : x10 = .int .i64 q := f10
              have G := hJ.keep
              clear hJ hd hn
              have e1 : IntKind.i64.wrap (L + q) = L + q := IntWalk.i64_in _ (by omega)
              go_simp
              exact HK.out _ _ (Keep.refl _) rfl
            · -- 12
              refine LinStep.plain rfl ?_
              intro QQ bb T ww hn hJ hd K HK
              obtain ⟨x11, t11, f11⟩ := hJ.dep hd 11 49 (by kernel_rfl) (by kernel_rfl)
              obtain rfl : x11 = .int .i64 (L + q) := f11
              have G := hJ.keep
              clear hJ hd hn
              go_simp
              exact HK.out _ _ (Keep.alloc (Keep.refl _) _) (⟨_, rfl, by simp [go_sem]⟩)
        · obtain rfl : k = n := by omega
          go_wp2
          go_ret2
          have hv := HV.out
          subst hv
          refine ⟨u7, rfl, ?_, KM.out.trans HR.out.2.2⟩
          have := listAt_owns HR.out.2.1
          show ListAt _ _ (drainL l R L)
          unfold drainL
          rw [HL.out]
          exact this

end Go.Proofs.Ytmamadgikjkjdaa
