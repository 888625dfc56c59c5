/- What sort.Search and Least of the package bucket return: the least burst with which a valid trace conforms. -/
import Derived.Test.YtaknbjjcgcmdlaaCalls
import Derived.Deep.LoopGhost
namespace Go.Proofs.Ytaknbjjcgcmdlaa
open Go Go.RowKit

/-! ### The least burst, in plain words -/
def need (R : Int) (a s : Nat → Int) (i j : Nat) : Int := psum s (j + 1) - psum s i - R * (a j - a i) / 1048576
def mx1 (f : Nat → Int) : Nat → Int
  | 0 => 1
  | k + 1 => max (mx1 f k) (f k)
def leastS (R : Int) (a s : Nat → Int) : Nat → Int
  | 0 => 1
  | n + 1 => max (leastS R a s n) (mx1 (fun i => need R a s i n) (n + 1))
theorem mx1_le {f : Nat → Int} {b : Int} : ∀ {k : Nat}, mx1 f k ≤ b ↔ 1 ≤ b ∧ ∀ i, i < k → f i ≤ b
  | 0 => by simp [mx1]
  | k + 1 => by
    simp only [mx1]
    rw [Int.max_le, mx1_le]
    constructor
    · rintro ⟨⟨h1, h2⟩, h3⟩
      refine ⟨h1, fun i hi => ?_⟩
      rcases Nat.lt_or_ge i k with h | h
      · exact h2 i h
      · obtain rfl : i = k := by omega
        exact h3
    · rintro ⟨h1, h2⟩
      exact ⟨⟨h1, fun i hi => h2 i (by omega)⟩, h2 k (by omega)⟩
theorem leastS_le {R : Int} {a s : Nat → Int} {b : Int} : ∀ {n : Nat}, leastS R a s n ≤ b ↔ 1 ≤ b ∧ ∀ j, j < n → ∀ i, i ≤ j → need R a s i j ≤ b
  | 0 => by simp [leastS]
  | n + 1 => by
    simp only [leastS]
    rw [Int.max_le, leastS_le, mx1_le]
    constructor
    · rintro ⟨⟨h1, h2⟩, _, h3⟩
      refine ⟨h1, fun j hj i hi => ?_⟩
      rcases Nat.lt_or_ge j n with h | h
      · exact h2 j h i hi
      · obtain rfl : j = n := by omega
        exact h3 i (by omega)
    · rintro ⟨h1, h2⟩
      exact ⟨⟨h1, fun j hj i hi => h2 j (by omega) i hi⟩, h1, fun i hi => h2 n (by omega) i (by omega)⟩
theorem leastS_one (R : Int) (a s : Nat → Int) (n : Nat) : 1 ≤ leastS R a s n := (leastS_le.1 (Int.le_refl _)).1
theorem gapB_need {B R : Int} {a s : Nat → Int} {i j : Nat} : gapB B R a s i j = true ↔ need R a s i j ≤ B := by
  unfold gapB need
  rw [decide_eq_true_eq]
  omega
theorem fitsB_least {B R : Int} {a s : Nat → Int} {n : Nat} (hB : 1 ≤ B) : fitsB B R a s n = true ↔ leastS R a s n ≤ B := by
  rw [fitsB_iff, leastS_le]
  exact ⟨fun h => ⟨hB, fun j hj i hi => gapB_need.1 (h j hj i hi)⟩, fun h j hj i hi => gapB_need.2 (h.2 j hj i hi)⟩

/-- Least's results. -/
def leastL (R : Int) (l : List (Int × Int)) : Int := leastS R (atL l) (szL l) l.length
def leastR (R : Int) (l : List (Int × Int)) : Int × Int :=
  if 1 ≤ R ∧ R ≤ 2097152 then (if okT l then (if leastL R l ≤ 1048576 then (leastL R l, 0) else (0, 6)) else (0, 131)) else (0, 2)

/-! ### sort.Search -/
set_option maxHeartbeats 4000000 in
set_option maxRecDepth 1000000 in
theorem search_any (g : Nat) (cb : Array Value) (n : Nat) (p : Nat → Bool) (w : World) (eg : ∀ args w, (callFunc g args).run Try.prog w = .ok (.enter g args) w) (hsz : n < 4611686018427387904)
    (hf : ∀ (W : World) (i : Nat), Keep w W → i < n → Calls Try.prog g (#[.int .i64 i] ++ cb) W (Res (.bool (p i)) W))
    (hmono : ∀ a b, a ≤ b → b < n → p a = true → p b = true) :
    Calls Try.prog 21 #[.int .i64 n, .func (.func g) #[] cb] w fun e w' => (∃ r : Nat, e = .returned (.int .i64 r) ∧ r ≤ n ∧ (∀ t, t < r → p t = false) ∧ (∀ t, r ≤ t → t < n → p t = true)) ∧ Keep w w' := by
  have HF := Lib.hid hf
  have M := Lib.hid hmono
  clear hf hmono
  go_enter Try.func21, Try.ntmps21
  go_wp2
  go_loopg [5, 6] n (fun kx s5 s6 wr => ∃ (lo hi : Nat), s5 = .int .i64 lo ∧ s6 = .int .i64 hi ∧ lo ≤ hi ∧ hi ≤ n ∧ hi - lo ≤ kx ∧ Hid (Keep w wr) ∧
    Hid ((∀ t, t < lo → p t = false) ∧ (∀ t, hi ≤ t → t < n → p t = true)))
  case atStart => exact ⟨0, n, rfl, rfl, Nat.zero_le _, Nat.le_refl _, by omega, Lib.hid (Keep.refl _), Lib.hid ⟨fun t ht => absurd ht (Nat.not_lt_zero _), fun t h1 h2 => by omega⟩⟩
  case round =>
    obtain ⟨lo, hi, rfl, rfl, hlh, hin, hg, HK, I⟩ := hrel
    by_cases hlt : lo < hi
    · have hc := HF.out _ ((lo + hi) / 2) HK.out (by omega)
      rw [show (((lo + hi) / 2 : Nat) : Int) = ((lo : Int) + (hi : Int)) / 2 by omega] at hc
      cases hp : p ((lo + hi) / 2) <;> rw [hp] at hc
      · have HP := Lib.hid hp
        clear hp
        go_wp2_with (go_at_fn g; refine hc.mono ?_; rintro e w' ⟨rfl, k1⟩)
        go_roundg (hi - ((lo + hi) / 2 + 1))
        case measure => omega
        case rel =>
          have I2 : Hid ((∀ t, t < (lo + hi) / 2 + 1 → p t = false) ∧ (∀ t, hi ≤ t → t < n → p t = true)) := Lib.hid ⟨fun t ht => (by
            cases h : p t with
            | false => rfl
            | true => have := M.out t ((lo + hi) / 2) (by omega) (by omega) h; rw [HP.out] at this; cases this), I.out.2⟩
          exact ⟨(lo + hi) / 2 + 1, hi, by rw [show ((lo : Int) + (hi : Int)) / 2 + 1 = (((lo + hi) / 2 + 1 : Nat) : Int) by omega], rfl, by omega, hin, Nat.le_refl _, Lib.hid (HK.out.trans k1), I2⟩
      · have HP := Lib.hid hp
        clear hp
        go_wp2_with (go_at_fn g; refine hc.mono ?_; rintro e w' ⟨rfl, k1⟩)
        go_roundg ((lo + hi) / 2 - lo)
        case measure => omega
        case rel =>
          have I2 : Hid ((∀ t, t < lo → p t = false) ∧ (∀ t, (lo + hi) / 2 ≤ t → t < n → p t = true)) := Lib.hid ⟨I.out.1, fun t ht htn => M.out ((lo + hi) / 2) t ht htn HP.out⟩
          exact ⟨lo, (lo + hi) / 2, rfl, by rw [show ((lo : Int) + (hi : Int)) / 2 = (((lo + hi) / 2 : Nat) : Int) by omega], by omega, by omega, Nat.le_refl _, Lib.hid (HK.out.trans k1), I2⟩
    · obtain rfl : hi = lo := by omega
      go_wp2
      go_ret
      exact ⟨⟨hi, rfl, hin, I.out.1, I.out.2⟩, HK.out⟩

/-! ### The closure, and Least -/
theorem closure_any (R : Int) (i : Nat) (l : List (Int × Int)) (Bx By len cap : Nat) (a0 : Option Addr) (W : World) (hi : i < 1048576) (hR : 1 ≤ R ∧ R ≤ 2097152) (hok : okT l = true) (hx : W.cell? ⟨Bx, 0, none⟩ = some (.int .i64 R)) (hy : W.cell? ⟨By, 0, none⟩ = some (.slice a0 len cap)) (hl : RowAt W (.slice a0 len cap) l)
    (b : Bool) (Hb : Hid (fitsB (1 + i) R (atL l) (szL l) l.length = b)) :
    Calls Try.prog 22 (#[.int .i64 i] ++ #[.pointer (some ⟨Bx, 0, none⟩), .pointer (some ⟨By, 0, none⟩)]) W (Res (.bool b) W) := by
  have HL := Lib.hid hl
  have HO := Lib.hid hok
  have HB : Hid (okBk (1 + i) R = true) := Lib.hid (okBk_iff.2 (by omega))
  obtain ⟨r, hr⟩ : ∃ r, firstL (1 + i) R l = r := ⟨_, rfl⟩
  have HD : Hid (decide (r < 0) = b) := Lib.hid (by rw [← hr, ← Hb.out]; exact first_neg (atL_zero hok) (by omega) _)
  have HF := Lib.hid hr
  clear hr hl hok
  go_enter Try.func22, Try.ntmps22
  go_wp2_with (go_at_call 23; ((with_reducible refine (firstBreach_is (1 + i) R r _ l _ HB HO HL HF).mono ?_); rintro e w1 ⟨rfl, k1⟩))
  go_ret
  exact ⟨by rw [← HD.out]; rfl, k1⟩

set_option maxHeartbeats 1000000 in
theorem least_slice (R : Int) (l : List (Int × Int)) (len cap : Nat) (a0 : Option Addr) (w : World) (h : RowAt w (.slice a0 len cap) l) : Calls Try.prog 12 #[.int .i64 R, .slice a0 len cap] w (Two (leastR R l) w) := by
  have hmf : ∀ (fn : Fn) (first cap : Array Value) (w : World), (Instr.makeFunc fn first cap).run Try.prog w = .ok (.func fn first cap) w := fun _ _ _ _ => rfl
  have HR := Lib.hid h
  clear h
  have k0 := (Keep.alloc (Keep.refl w) (.cells #[.int .i64 R] 3)).alloc (.cells #[.slice a0 len cap] 32)
  unfold leastR
  by_cases hr : 1 ≤ R ∧ R ≤ 2097152
  · rw [if_pos hr]
    have H1 : Hid ((decide (1 ≤ R) && decide (R ≤ 2097152)) = true) := Lib.hid (by simp [hr])
    cases ht : okT l with
    | false =>
      have HT : Hid (traceE l = 131) := Lib.hid (by unfold traceE; rw [ht]; rfl)
      rw [if_neg (by simp)]
      clear ht
      go_enter Try.func12, Try.ntmps12
      go_wp2_with (first | (go_at_call 18; ((with_reducible refine (between_is 1 R 2097152 _ _ H1).mono ?_); rintro e w' ⟨rfl, rfl⟩)) | (go_at_call 20; ((with_reducible refine (checkTrace_is _ l _ _ (Lib.hid (HR.out.keep k0)) HT).mono ?_); rintro e w2 ⟨rfl, k2⟩)))
      go_ret2
      exact ⟨rfl, k0.trans k2⟩
    | true =>
      have HT : Hid (traceE l = 0) := Lib.hid (by unfold traceE; rw [ht]; rfl)
      have HO := Lib.hid ht
      rw [if_pos rfl]
      clear ht
      obtain ⟨V, hV⟩ : ∃ V : Int × Int, (if leastL R l ≤ 1048576 then (leastL R l, 0) else (0, 6)) = V := ⟨_, rfl⟩
      have HV := Lib.hid hV
      rw [hV]
      clear hV
      go_enter Try.func12, Try.ntmps12
      go_wp2_with (first | (go_at_call 18; ((with_reducible refine (between_is 1 R 2097152 _ _ H1).mono ?_); rintro e w' ⟨rfl, rfl⟩)) | (go_at_call 20; ((with_reducible refine (checkTrace_is _ l _ _ (Lib.hid (HR.out.keep k0)) HT).mono ?_); rintro e w2 ⟨rfl, k2⟩)))
      go_at_call 21
      have cx : w2.cell? ⟨w.heap.size, 0, none⟩ = some (.int .i64 R) := k2.some (by simp [go_sem])
      have cy : w2.cell? ⟨w.heap.size + 1, 0, none⟩ = some (.slice a0 len cap) := k2.some (by simp [go_sem])
      have hS := search_any 22 #[.pointer (some ⟨w.heap.size, 0, none⟩), .pointer (some ⟨w.heap.size + 1, 0, none⟩)] 1048576 (fun i => fitsB (1 + i) R (atL l) (szL l) l.length) w2 (enters_of Try.func22 (by kernel_rfl) rfl) (by omega)
        (fun W i hW hi => closure_any R i l _ _ len cap a0 W hi hr HO.out (hW.some cx) (hW.some cy) (HR.out.keep ((k0.trans k2).trans hW)) _ (Lib.hid rfl))
        (fun a b hab hb h => by
          rw [fitsB_least (by omega)] at h ⊢
          omega)
      refine hS.mono ?_
      rintro e w3 ⟨⟨r, rfl, hr1, hr2, hr3⟩, k3⟩
      have hle : ∀ t : Nat, t < 1048576 → (leastL R l ≤ 1 + (t : Int) ↔ r ≤ t) := fun t ht => by
        unfold leastL
        rw [← fitsB_least (by omega)]
        constructor
        · intro h
          rcases Nat.lt_or_ge t r with h' | h'
          · have := hr2 t h'
            rw [h] at this; cases this
          · exact h'
        · exact fun h => hr3 t h ht
      have h1 : 1 ≤ leastL R l := leastS_one _ _ _ _
      rcases Nat.lt_or_ge r 1048576 with h | h
      · have e1 := (hle r h).2 (Nat.le_refl _)
        have e2 : leastL R l = 1 + r := by
          rcases Nat.eq_zero_or_pos r with h0 | h0
          · omega
          · have := mt (hle (r - 1) (by omega)).1 (by omega)
            omega
        have HE : Hid (V = (1 + (r : Int), 0)) := Lib.hid (by rw [← HV.out, if_pos (by omega), e2])
        clear hle hr2 hr3 hS e1 e2 h1
        go_wp2
        go_ret2
        exact ⟨by rw [HE.out]; rfl, (k0.trans k2).trans k3⟩
      · obtain rfl : r = 1048576 := by omega
        have := mt (hle 1048575 (by omega)).1 (by omega)
        have HE : Hid (V = (0, 6)) := Lib.hid (by rw [← HV.out, if_neg (by omega)])
        clear hle hr2 hr3 hS h1
        go_wp2
        go_ret2
        exact ⟨by rw [HE.out]; rfl, (k0.trans k2).trans k3⟩
  · rw [if_neg hr]
    have H1 : Hid ((decide (1 ≤ R) && decide (R ≤ 2097152)) = false) := Lib.hid (by simp; omega)
    clear hr
    go_enter Try.func12, Try.ntmps12
    go_wp2_with (go_at_call 18; ((with_reducible refine (between_is 1 R 2097152 _ _ H1).mono ?_); rintro e w' ⟨rfl, rfl⟩))
    go_ret2
    exact ⟨rfl, k0⟩

theorem RowAt.slice {w : World} {v : Value} {l : List (Int × Int)} (h : RowAt w v l) : ∃ a0 len cap, v = .slice a0 len cap := by
  rcases h with ⟨rfl, -⟩ | ⟨b, off, n, cap, rfl, -⟩
  · exact ⟨_, _, _, rfl⟩
  · exact ⟨_, _, _, rfl⟩
theorem least_any (R : Int) (v : Value) (l : List (Int × Int)) (w : World) (h : RowAt w v l) : Calls Try.prog 12 #[.int .i64 R, v] w (Two (leastR R l) w) := by
  obtain ⟨a0, len, cap, rfl⟩ := h.slice
  exact least_slice R l len cap a0 w h

end Go.Proofs.Ytaknbjjcgcmdlaa
