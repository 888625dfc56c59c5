/- What Join and finish of the package curve return. -/
import Derived.Test.YtmamadgikjkjdaaErrs
import Derived.Test.YtmamadgikjkjdaaCross
namespace Go.Proofs.Ytmamadgikjkjdaa
open Go Go.RowKit

/-- firstError of a row of two closures that the call has made. -/
theorem firstError2_is (W : World) (X : Nat) (t : TypeId) (g0 g1 : FuncId) (cb0 cb1 : Array Value) (E0 E1 V : Int) (hX : X = W.heap.size)
    (e0 : ∀ args w, (callFunc g0 args).run Try.prog w = .ok (.enter g0 args) w) (e1 : ∀ args w, (callFunc g1 args).run Try.prog w = .ok (.enter g1 args) w)
    (h0 : ∀ W', Keep W W' → Calls Try.prog g0 cb0 W' (Res (.int .i64 E0) W')) (h1 : ∀ W', Keep W W' → E0 = 0 → Calls Try.prog g1 cb1 W' (Res (.int .i64 E1) W')) (HV : Hid ((if E0 = 0 then E1 else E0) = V)) :
    Calls Try.prog 52 #[.slice (some ⟨X, 0, none⟩) 2 2] (W.alloc (.cells #[.func (.func g0) #[] cb0, .func (.func g1) #[] cb1] t)) (Res (.int .i64 V) (W.alloc (.cells #[.func (.func g0) #[] cb0, .func (.func g1) #[] cb1] t))) := by
  subst hX
  have kk := Keep.alloc (Keep.refl W) (.cells #[.func (.func g0) #[] cb0, .func (.func g1) #[] cb1] t)
  refine firstError_any W.heap.size 0 2 2 (fun j => match j with | 0 => g0 | _ => g1) (fun j => match j with | 0 => cb0 | _ => cb1) (fun j => match j with | 0 => E0 | _ => E1) V _ (by omega) ?_ ?_ ?_ ?_
  · intro j hj
    obtain rfl | rfl : j = 0 ∨ j = 1 := by omega
    · simp [go_sem]
    · simp [go_sem]
  · intro j hj
    obtain rfl | rfl : j = 0 ∨ j = 1 := by omega
    · exact e0
    · exact e1
  · intro W' j hW hj hE
    obtain rfl | rfl : j = 0 ∨ j = 1 := by omega
    · exact h0 W' (kk.trans hW)
    · exact h1 W' (kk.trans hW) (hE 0 (by omega))
  · refine Lib.hid ?_
    rw [← HV.out]
    simp only [firstE]
    simp

theorem keepThaw {w w' : World} (k : Keep w w') {b o : Nat} {v : Value} (hc : w.cell? ⟨b, o, none⟩ = some v) (hz : w.frozen? ⟨b, o, none⟩ = false) : w'.frozen? ⟨b, o, none⟩ = false := (k.frozen (cellBlock hc)).trans hz
theorem thaw_alloc {w : World} {a : Addr} (c : Array Value) (t : TypeId) (hz : w.frozen? a = false) : (w.alloc (.cells c t)).frozen? a = false := by rw [frozen?_alloc_cells]; exact hz
/-- Join's results. -/
def joinR (R1 L1 R2 L2 : Int) : (Int × Int) × Int :=
  if okSv R1 L1 && okSv R2 L2 then (if L1 + L2 ≤ 268435456 then ((min R1 R2, L1 + L2), 0) else ((0, 0), 6)) else ((0, 0), 140)
set_option maxRecDepth 100000 in
set_option maxHeartbeats 2000000 in
theorem join_is (R1 L1 R2 L2 X Y E : Int) (w : World) (H : Hid (joinR R1 L1 R2 L2 = ((X, Y), E))) :
    Calls Try.prog 28 #[.agg #[.int .i64 R1, .int .i64 L1], .agg #[.int .i64 R2, .int .i64 L2]] w (Res (.tuple #[.agg #[.int .i64 X, .int .i64 Y], .int .i64 E]) w) := by
  have hmf : ∀ (fn : Fn) (first cap : Array Value) (w : World), (Instr.makeFunc fn first cap).run Try.prog w = .ok (.func fn first cap) w := fun _ _ _ _ => rfl
  obtain ⟨W0, hW0⟩ : ∃ W0, ((w.alloc (.cells #[.int .i64 R1, .int .i64 L1] 54)).alloc (.cells #[.int .i64 R2, .int .i64 L2] 54)).alloc (.cells #[.int .i64 0, .int .i64 0] 54) = W0 := ⟨_, rfl⟩
  have k0 : Keep w W0 := by rw [← hW0]; exact ((Keep.alloc (Keep.refl w) _).alloc _).alloc _
  have hsz : W0.heap.size = w.heap.size + 1 + 1 + 1 := by rw [← hW0]; simp
  have a0 : W0.cell? ⟨w.heap.size, 0, none⟩ = some (.int .i64 R1) := by rw [← hW0]; simp [go_sem]
  have a1 : W0.cell? ⟨w.heap.size, 1, none⟩ = some (.int .i64 L1) := by rw [← hW0]; simp [go_sem]
  have b0 : W0.cell? ⟨w.heap.size + 1, 0, none⟩ = some (.int .i64 R2) := by rw [← hW0]; simp [go_sem]
  have b1 : W0.cell? ⟨w.heap.size + 1, 1, none⟩ = some (.int .i64 L2) := by rw [← hW0]; simp [go_sem]
  have r0 : W0.cell? ⟨w.heap.size + 1 + 1, 0, none⟩ = some (.int .i64 0) := by rw [← hW0]; simp [go_sem]
  have r1 : W0.cell? ⟨w.heap.size + 1 + 1, 1, none⟩ = some (.int .i64 0) := by rw [← hW0]; simp [go_sem]
  have z0 : W0.frozen? ⟨w.heap.size + 1 + 1, 0, none⟩ = false := by rw [← hW0]; simp [go_sem]
  have z1 : W0.frozen? ⟨w.heap.size + 1 + 1, 1, none⟩ = false := by rw [← hW0]; simp [go_sem]
  have HF : ∀ V, Hid ((if serveE R1 L1 = 0 then serveE R2 L2 else serveE R1 L1) = V) → Calls Try.prog 52 #[.slice (some ⟨w.heap.size + 1 + 1 + 1, 0, none⟩) 2 2] (W0.alloc (.cells #[.func (.func 53) #[] #[.pointer (some ⟨w.heap.size, 0, none⟩)], .func (.func 54) #[] #[.pointer (some ⟨w.heap.size + 1, 0, none⟩)]] 97))
      (Res (.int .i64 V) (W0.alloc (.cells #[.func (.func 53) #[] #[.pointer (some ⟨w.heap.size, 0, none⟩)], .func (.func 54) #[] #[.pointer (some ⟨w.heap.size + 1, 0, none⟩)]] 97))) := fun V HV =>
    firstError2_is W0 _ _ _ _ _ _ _ _ V (by omega) (enters_of Try.func53 (by kernel_rfl) rfl) (enters_of Try.func54 (by kernel_rfl) rfl) (fun W' hW => closJoin1_is _ R1 L1 _ W' (hW.some a0) (hW.some a1) (Lib.hid rfl)) (fun W' hW _ => closJoin2_is _ R2 L2 _ W' (hW.some b0) (hW.some b1) (Lib.hid rfl)) HV
  have hd := H.out
  unfold joinR at hd
  cases ho : (okSv R1 L1 && okSv R2 L2) with
  | true =>
    rw [ho, if_pos rfl] at hd
    obtain ⟨o1, o2⟩ := Bool.and_eq_true_iff.1 ho
    have s1 := okSv_iff.1 o1
    have s2 := okSv_iff.1 o2
    have HC := Lib.hid (HF 0 (Lib.hid (by unfold serveE; rw [o1, o2]; rfl)))
    obtain ⟨m, hm⟩ : ∃ m, min R1 R2 = m := ⟨_, rfl⟩
    have bm : 1 ≤ m ∧ m ≤ 2097152 := by omega
    rw [hm] at hd
    have HS : Hid (serveE m (L1 + L2) = (if L1 + L2 ≤ 268435456 then 0 else 140)) := Lib.hid (by
      unfold serveE okSv
      by_cases h : L1 + L2 ≤ 268435456
      · rw [if_pos h, if_pos]; simp; omega
      · rw [if_neg h, if_neg]; simp; omega)
    by_cases hle : L1 + L2 ≤ 268435456
    · rw [if_pos hle] at hd
      obtain ⟨rfl, rfl, rfl⟩ : m = X ∧ L1 + L2 = Y ∧ 0 = E := by cases hd; exact ⟨rfl, rfl, rfl⟩
      have HS' : Hid (serveE m (L1 + L2) = 0) := Lib.hid (by rw [HS.out, if_pos hle])
      clear hd ho o1 o2 HF H HS
      go_enter Try.func28, Try.ntmps28
      go_wp2_with fail
      clear hW0
      go_at_call 52
      refine (HC.out).mono ?_
      rintro e w1 ⟨rfl, k1⟩
      have kk := (Keep.alloc (Keep.refl W0) (.cells #[.func (.func 53) #[] #[.pointer (some ⟨w.heap.size, 0, none⟩)], .func (.func 54) #[] #[.pointer (some ⟨w.heap.size + 1, 0, none⟩)]] 97)).trans k1
      have a0 := kk.some a0
      have a1 := kk.some a1
      have b0 := kk.some b0
      have b1 := kk.some b1
      have z0 := (kk.frozen (cellBlock r0)).trans z0
      have z1 := (kk.frozen (cellBlock r1)).trans z1
      have r0 := kk.some r0
      have r1 := kk.some r1
      go_wp2_with fail
      go_at_call 30
      refine (serve_is m (L1 + L2) _ _ HS').mono ?_
      rintro e w2 ⟨rfl, k2⟩
      have n0 : w2.cell? ⟨w1.heap.size, 0, none⟩ = some (.int .i64 m) := k2.some (by simp [go_sem])
      have n1 : w2.cell? ⟨w1.heap.size, 1, none⟩ = some (.int .i64 (L1 + L2)) := k2.some (by simp [go_sem])
      have z0 := keepThaw k2 (cell_alloc_old (.cells #[.int .i64 m, .int .i64 (L1 + L2)] 54) r0) (thaw_alloc #[.int .i64 m, .int .i64 (L1 + L2)] 54 z0)
      have z1 := keepThaw k2 (cell_alloc_old (.cells #[.int .i64 m, .int .i64 (L1 + L2)] 54) r1) (thaw_alloc #[.int .i64 m, .int .i64 (L1 + L2)] 54 z1)
      have r0 := k2.some (cell_alloc_old (.cells #[.int .i64 m, .int .i64 (L1 + L2)] 54) r0)
      have r1 := k2.some (cell_alloc_old (.cells #[.int .i64 m, .int .i64 (L1 + L2)] 54) r1)
      go_wp2
      exact bodyPost_ret (v := .tuple #[.agg #[.int .i64 m, .int .i64 (L1 + L2)], .int .i64 0]) (by simp [results, Try.results28, go_sem, r0, r1]) rfl ⟨rfl, ((((k0.trans kk).alloc _).trans k2).setCell (by simp; omega) _).setCell (by simp; omega) _⟩
    · rw [if_neg hle] at hd
      have hle' : 268435456 < L1 + L2 := by omega
      obtain ⟨rfl, rfl, rfl⟩ : 0 = X ∧ 0 = Y ∧ 6 = E := by cases hd; exact ⟨rfl, rfl, rfl⟩
      have HS' : Hid (serveE m (L1 + L2) = 140) := Lib.hid (by rw [HS.out, if_neg hle])
      clear hd ho o1 o2 HF H HS
      go_enter Try.func28, Try.ntmps28
      go_wp2_with fail
      clear hW0
      go_at_call 52
      refine (HC.out).mono ?_
      rintro e w1 ⟨rfl, k1⟩
      have kk := (Keep.alloc (Keep.refl W0) (.cells #[.func (.func 53) #[] #[.pointer (some ⟨w.heap.size, 0, none⟩)], .func (.func 54) #[] #[.pointer (some ⟨w.heap.size + 1, 0, none⟩)]] 97)).trans k1
      have a0 := kk.some a0
      have a1 := kk.some a1
      have b0 := kk.some b0
      have b1 := kk.some b1
      have z0 := (kk.frozen (cellBlock r0)).trans z0
      have z1 := (kk.frozen (cellBlock r1)).trans z1
      have r0 := kk.some r0
      have r1 := kk.some r1
      go_wp2_with fail
      go_at_call 30
      refine (serve_is m (L1 + L2) _ _ HS').mono ?_
      rintro e w2 ⟨rfl, k2⟩
      have z0 := keepThaw k2 (cell_alloc_old (.cells #[.int .i64 m, .int .i64 (L1 + L2)] 54) r0) (thaw_alloc #[.int .i64 m, .int .i64 (L1 + L2)] 54 z0)
      have z1 := keepThaw k2 (cell_alloc_old (.cells #[.int .i64 m, .int .i64 (L1 + L2)] 54) r1) (thaw_alloc #[.int .i64 m, .int .i64 (L1 + L2)] 54 z1)
      have r0 := k2.some (cell_alloc_old (.cells #[.int .i64 m, .int .i64 (L1 + L2)] 54) r0)
      have r1 := k2.some (cell_alloc_old (.cells #[.int .i64 m, .int .i64 (L1 + L2)] 54) r1)
      go_wp2
      exact bodyPost_ret (v := .tuple #[.agg #[.int .i64 0, .int .i64 0], .int .i64 6]) (by simp [results, Try.results28, go_sem, r0, r1]) rfl ⟨rfl, ((((k0.trans kk).alloc _).trans k2).setCell (by simp; omega) _).setCell (by simp; omega) _⟩
  | false =>
    rw [ho] at hd
    obtain ⟨rfl, rfl, rfl⟩ : 0 = X ∧ 0 = Y ∧ 140 = E := by cases hd; exact ⟨rfl, rfl, rfl⟩
    have HC := Lib.hid (HF 140 (Lib.hid (by
      unfold serveE
      cases o1 : okSv R1 L1 <;> cases o2 : okSv R2 L2 <;> simp_all)))
    clear hd ho HF H
    go_enter Try.func28, Try.ntmps28
    go_wp2_with fail
    clear hW0
    go_at_call 52
    refine (HC.out).mono ?_
    rintro e w1 ⟨rfl, k1⟩
    have kk := (Keep.alloc (Keep.refl W0) (.cells #[.func (.func 53) #[] #[.pointer (some ⟨w.heap.size, 0, none⟩)], .func (.func 54) #[] #[.pointer (some ⟨w.heap.size + 1, 0, none⟩)]] 97)).trans k1
    have z0 := (kk.frozen (cellBlock r0)).trans z0
    have z1 := (kk.frozen (cellBlock r1)).trans z1
    have r0 := kk.some r0
    have r1 := kk.some r1
    go_wp2
    exact bodyPost_ret (v := .tuple #[.agg #[.int .i64 0, .int .i64 0], .int .i64 140]) (by simp [results, Try.results28, go_sem, r0, r1]) rfl ⟨rfl, ((k0.trans kk).setCell (by simp; omega) _).setCell (by simp; omega) _⟩

/-- The latest of some times, and zero. -/
def mx0 (f : Nat → Int) : Nat → Int
  | 0 => 0
  | k + 1 => max (mx0 f k) (f k)
set_option maxRecDepth 100000 in
theorem finish_any (b off n cap : Nat) (f : Nat → Int) (wk V : Int) (w : World) (hn : n ≤ 1000) (hc : ∀ j, j < n → w.cell? ⟨b, off + j, none⟩ = some (.int .i64 (f j))) (hf : ∀ j, j < n → f j ≤ 4611686018427387904) (hw : 0 ≤ wk ∧ wk ≤ 4398046511104) (HV : Hid (mx0 f n + wk = V)) (hV : V ≤ 9223372036854775807) :
    Calls Try.prog 65 #[.int .i64 wk, .slice (some ⟨b, off, none⟩) n cap] w fun e w' => e = .returned (.int .i64 V) ∧ w = w' := by
  have HC := Lib.hid hc
  have HFB := Lib.hid hf
  clear hc hf
  go_enter Try.func65, Try.ntmps65
  go_wp2
  go_loop [5, 10] (fun s5 s10 => ∃ (k : Nat) (m : Int), k ≤ n ∧ s10 = .int .i64 k ∧ s5 = .int .i64 m ∧ (0 ≤ m ∧ m ≤ 4611686018427387904) ∧ Hid (mx0 f k = m)) (fun _ i => n - (intOf i).toNat)
  case atStart => exact ⟨0, 0, Nat.zero_le _, rfl, rfl, by omega, Lib.hid rfl⟩
  case round =>
    obtain ⟨k, m, hk, rfl, rfl, hm, HM⟩ := hrel
    by_cases hlt : k < n
    · have c0 := HC.out k hlt
      have fb := HFB.out k hlt
      have eM : mx0 f (k + 1) = max (mx0 f k) (f k) := rfl
      obtain ⟨x, hx⟩ : ∃ x, f k = x := ⟨_, rfl⟩
      rw [hx, HM.out] at eM
      rw [hx] at c0 fb
      obtain ⟨y, hy⟩ : ∃ y, max m x = y := ⟨_, rfl⟩
      rw [hy] at eM
      have HM' := Lib.hid eM
      have by' : 0 ≤ y ∧ y ≤ 4611686018427387904 := by omega
      clear hx eM
      go_wp2
      go_round
      case rel => exact ⟨k + 1, y, by omega, rfl, rfl, by', HM'⟩
      case measure => simp [intOf]; omega
    · obtain rfl : k = n := by omega
      have hV' : m + wk = V := by rw [← HV.out, HM.out]
      go_wp2
      go_ret
      exact ⟨rfl, rfl⟩

end Go.Proofs.Ytmamadgikjkjdaa
