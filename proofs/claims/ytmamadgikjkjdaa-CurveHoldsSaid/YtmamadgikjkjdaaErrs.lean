/- What firstError of the package curve returns for a row of closures, whatever each of them returns; checkBuckets, ContainsFunc over buckets, checkFlow, Join. -/
import Derived.Test.YtmamadgikjkjdaaServe
import Derived.Test.YtmamadgikjkjdaaSum
import Derived.Test.YtmamadgikjkjdaaSearch
import Derived.Deep.Cut
namespace Go.Proofs.Ytmamadgikjkjdaa
open Go Go.RowKit

def firstE (E : Nat → Int) : Nat → Int
  | 0 => 0
  | n + 1 => if firstE E n = 0 then E n else firstE E n
theorem firstE_zero {E : Nat → Int} : ∀ {n : Nat}, (∀ i, i < n → E i = 0) → firstE E n = 0
  | 0, _ => rfl
  | n + 1, h => by
    simp only [firstE]
    rw [if_pos (firstE_zero fun i hi => h i (by omega))]
    exact h n (by omega)
theorem firstE_at {E : Nat → Int} {k : Nat} (hk : ∀ i, i < k → E i = 0) (hz : E k ≠ 0) : ∀ {n : Nat}, k < n → firstE E n = E k
  | 0, h => by omega
  | n + 1, h => by
    simp only [firstE]
    rcases Nat.lt_or_ge k n with h1 | h1
    · have := firstE_at hk hz h1
      rw [if_neg (by rw [this]; exact hz), this]
    · obtain rfl : k = n := by omega
      rw [if_pos (firstE_zero hk)]

set_option maxRecDepth 100000 in
set_option maxHeartbeats 1000000 in
theorem firstError_any (b off n cap : Nat) (f : Nat → FuncId) (cs : Nat → Array Value) (E : Nat → Int) (V : Int) (w : World) (hn : n ≤ 3)
    (hc : ∀ j, j < n → w.cell? ⟨b, off + j, none⟩ = some (.func (.func (f j)) #[] (cs j)))
    (he : ∀ j, j < n → ∀ args w, (callFunc (f j) args).run Try.prog w = .ok (.enter (f j) args) w)
    (hf : ∀ (W : World) (j : Nat), Keep w W → j < n → (∀ i, i < j → E i = 0) → Calls Try.prog (f j) (cs j) W (Res (.int .i64 (E j)) W))
    (HV : Hid (firstE E n = V)) : Calls Try.prog 52 #[.slice (some ⟨b, off, none⟩) n cap] w (Res (.int .i64 V) w) := by
  have HC := Lib.hid hc
  have HE := Lib.hid he
  have HF := Lib.hid hf
  clear hc he hf
  go_enter Try.func52, Try.ntmps52
  go_wp2
  go_loopw [8] (fun s8 wr => ∃ k : Nat, k ≤ n ∧ s8 = .int .i64 k ∧ Hid ((∀ i, i < k → E i = 0) ∧ Keep w wr)) (fun i _ => n - (intOf i).toNat)
  case atStart => exact ⟨0, Nat.zero_le _, rfl, Lib.hid ⟨fun i hi => absurd hi (Nat.not_lt_zero _), Keep.refl _⟩⟩
  case round =>
    obtain ⟨k, hk, rfl, HR⟩ := hrel
    by_cases hlt : k < n
    · have c0 := HR.out.2.some (HC.out k hlt)
      have hcall := HF.out _ k HR.out.2 hlt HR.out.1
      have eg := HE.out k hlt
      obtain ⟨ek, hek⟩ : ∃ ek, E k = ek := ⟨_, rfl⟩
      rw [hek] at hcall
      have HK := Lib.hid hek
      clear hek
      generalize f k = g at *
      generalize cs k = cb at *
      have HCA := Lib.hid hcall
      clear hcall
      by_cases hz : ek = 0
      · subst hz
        go_wp2_with (go_at_fn g; refine (HCA.out).mono ?_; rintro e w' ⟨rfl, k1⟩)
        go_roundw
        case rel => exact ⟨k + 1, by omega, rfl, Lib.hid ⟨fun i hi => by
          rcases Nat.lt_or_ge i k with h | h
          · exact HR.out.1 i h
          · obtain rfl : i = k := by omega
            exact HK.out, HR.out.2.trans k1⟩⟩
        case measure => simp [intOf]; omega
      · have hz' : (ek == 0) = false := by simp [hz]
        have hz2 : (ek != 0) = true := by simp [hz]
        have HV' : Hid (V = ek) := Lib.hid (by rw [← HV.out, firstE_at HR.out.1 (by rw [HK.out]; exact hz) hlt, HK.out])
        go_wp2_with (go_at_fn g; refine (HCA.out).mono ?_; rintro e w' ⟨rfl, k1⟩)
        go_ret
        exact ⟨by rw [HV'.out]; rfl, HR.out.2.trans k1⟩
    · obtain rfl : k = n := by omega
      have HV' : Hid (V = 0) := Lib.hid (by rw [← HV.out, firstE_zero HR.out.1])
      go_wp2
      go_ret
      exact ⟨by rw [HV'.out]; rfl, HR.out.2⟩

/-! ### The closures that check a service -/
set_option maxRecDepth 100000 in
theorem closJoin1_is (B : Nat) (R L E : Int) (w : World) (c0 : w.cell? ⟨B, 0, none⟩ = some (.int .i64 R)) (c1 : w.cell? ⟨B, 1, none⟩ = some (.int .i64 L)) (H : Hid (serveE R L = E)) :
    Calls Try.prog 53 #[.pointer (some ⟨B, 0, none⟩)] w (Res (.int .i64 E) w) := by
  go_enter Try.func53, Try.ntmps53
  go_wp2_with (go_at_call 30; ((with_reducible refine (serve_is R L _ _ H).mono ?_); rintro e w1 ⟨rfl, k1⟩))
  go_ret
  exact ⟨rfl, k1⟩
set_option maxRecDepth 100000 in
theorem closJoin2_is (B : Nat) (R L E : Int) (w : World) (c0 : w.cell? ⟨B, 0, none⟩ = some (.int .i64 R)) (c1 : w.cell? ⟨B, 1, none⟩ = some (.int .i64 L)) (H : Hid (serveE R L = E)) :
    Calls Try.prog 54 #[.pointer (some ⟨B, 0, none⟩)] w (Res (.int .i64 E) w) := by
  go_enter Try.func54, Try.ntmps54
  go_wp2_with (go_at_call 30; ((with_reducible refine (serve_is R L _ _ H).mono ?_); rintro e w1 ⟨rfl, k1⟩))
  go_ret
  exact ⟨rfl, k1⟩
set_option maxRecDepth 100000 in
theorem closDrain2_is (B : Nat) (R L E : Int) (w : World) (c0 : w.cell? ⟨B, 0, none⟩ = some (.int .i64 R)) (c1 : w.cell? ⟨B, 1, none⟩ = some (.int .i64 L)) (H : Hid (serveE R L = E)) :
    Calls Try.prog 64 #[.pointer (some ⟨B, 0, none⟩)] w (Res (.int .i64 E) w) := by
  go_enter Try.func64, Try.ntmps64
  go_wp2_with (go_at_call 30; ((with_reducible refine (serve_is R L _ _ H).mono ?_); rintro e w1 ⟨rfl, k1⟩))
  go_ret
  exact ⟨rfl, k1⟩
set_option maxRecDepth 100000 in
theorem closFlow2_is (B : Nat) (R L E : Int) (w : World) (c0 : w.cell? ⟨B, 0, none⟩ = some (.int .i64 R)) (c1 : w.cell? ⟨B, 1, none⟩ = some (.int .i64 L)) (H : Hid (serveE R L = E)) :
    Calls Try.prog 75 #[.pointer (some ⟨B, 0, none⟩)] w (Res (.int .i64 E) w) := by
  go_enter Try.func75, Try.ntmps75
  go_wp2_with (go_at_call 30; ((with_reducible refine (serve_is R L _ _ H).mono ?_); rintro e w1 ⟨rfl, k1⟩))
  go_ret
  exact ⟨rfl, k1⟩
set_option maxRecDepth 100000 in
theorem closDrain1_is (B len cap : Nat) (a0 : Option Addr) (l : List (Int × Int)) (E : Int) (w : World) (c0 : w.cell? ⟨B, 0, none⟩ = some (.slice a0 len cap)) (hl : Hid (RowAt w (.slice a0 len cap) l)) (H : Hid (traceE l = E)) :
    Calls Try.prog 63 #[.pointer (some ⟨B, 0, none⟩)] w (Res (.int .i64 E) w) := by
  go_enter Try.func63, Try.ntmps63
  go_wp2_with (go_at_call 26; ((with_reducible refine (checkTrace_is _ l _ _ hl H).mono ?_); rintro e w1 ⟨rfl, k1⟩))
  go_ret
  exact ⟨rfl, k1⟩

/-! ### checkBuckets -/
def bucketsE (l : List (Int × Int)) : Int := if l.length = 0 then 2 else if 12 < l.length then 3 else if okEach (atL l) (szL l) l.length then 0 else 130

set_option maxRecDepth 100000 in
set_option maxHeartbeats 1000000 in
theorem checkBuckets_some (b off n cap : Nat) (a s : Nat → Int) (w : World) (h1 : 1 ≤ n) (hn : n ≤ 12) (ha : ∀ j, j < n → w.cell? ⟨b, off + j * 2, none⟩ = some (.int .i64 (a j))) (hs : ∀ j, j < n → w.cell? ⟨b, off + j * 2 + 1, none⟩ = some (.int .i64 (s j)))
    (V : Int) (HV : Hid ((if okEach a s n then 0 else 130) = V)) : Calls Try.prog 74 #[.slice (some ⟨b, off, none⟩) n cap] w (Res (.int .i64 V) w) := by
  have HA := Lib.hid ha
  have HS := Lib.hid hs
  clear ha hs
  have h0 : ¬ n = 0 := by omega
  have h0' : ((n : Int) == 0) = false := by simp; omega
  go_enter Try.func74, Try.ntmps74
  go_wp2
  go_loopw [14] (fun s14 wr => ∃ k : Nat, k ≤ n ∧ s14 = .int .i64 k ∧ Hid (okEach a s k = true ∧ Keep w wr)) (fun i _ => n - (intOf i).toNat)
  case atStart => exact ⟨0, Nat.zero_le _, rfl, Lib.hid ⟨rfl, Keep.refl _⟩⟩
  case round =>
    obtain ⟨k, hk, rfl, HK⟩ := hrel
    by_cases hlt : k < n
    · have c0 := HK.out.2.some (HA.out k hlt)
      have c1 := HK.out.2.some (HS.out k hlt)
      obtain ⟨p, hp⟩ : ∃ p, a k = p := ⟨_, rfl⟩
      obtain ⟨q, hq⟩ : ∃ q, s k = q := ⟨_, rfl⟩
      rw [hp] at c0
      rw [hq] at c1
      cases ho : okBk p q with
      | false =>
        have HC : Hid (checkE p q = 130) := Lib.hid (by unfold checkE; rw [ho]; rfl)
        have HE : Hid (V = 130) := Lib.hid (by rw [← HV.out, okEach_no hlt (by rw [hp, hq]; exact ho)]; rfl)
        clear ho hp hq
        go_wp2_with (go_at_call 24; ((with_reducible refine (check_is p q _ _ HC).mono ?_); rintro e w1 ⟨rfl, k1⟩))
        go_ret
        exact ⟨by rw [HE.out]; rfl, (HK.out.2.alloc _).trans k1⟩
      | true =>
        have HC : Hid (checkE p q = 0) := Lib.hid (by unfold checkE; rw [ho]; rfl)
        have HO : Hid (okBk (a k) (s k) = true) := Lib.hid (by rw [hp, hq]; exact ho)
        clear ho hp hq
        go_wp2_with (go_at_call 24; ((with_reducible refine (check_is p q _ _ HC).mono ?_); rintro e w1 ⟨rfl, k1⟩))
        go_roundw
        case rel => exact ⟨k + 1, by omega, rfl, Lib.hid ⟨by rw [okEach_succ, HK.out.1, HO.out]; rfl, (HK.out.2.alloc _).trans k1⟩⟩
        case measure => simp [intOf]; omega
    · obtain rfl : k = n := by omega
      have HE : Hid (V = 0) := Lib.hid (by rw [← HV.out, HK.out.1]; rfl)
      go_wp2
      go_ret
      exact ⟨by rw [HE.out]; rfl, HK.out.2⟩
set_option maxRecDepth 100000 in
theorem checkBuckets_nil (w : World) : Calls Try.prog 74 #[.slice none 0 0] w (Res (.int .i64 2) w) := by
  go_enter Try.func74, Try.ntmps74
  go_wp2
  go_ret
  exact ⟨rfl, Keep.refl _⟩
set_option maxRecDepth 100000 in
theorem checkBuckets_zero (b off cap : Nat) (w : World) : Calls Try.prog 74 #[.slice (some ⟨b, off, none⟩) 0 cap] w (Res (.int .i64 2) w) := by
  go_enter Try.func74, Try.ntmps74
  go_wp2
  go_ret
  exact ⟨rfl, Keep.refl _⟩
set_option maxRecDepth 100000 in
theorem checkBuckets_long (b off n cap : Nat) (w : World) (hn : 12 < n) (hm : n ≤ 9223372036854775807) : Calls Try.prog 74 #[.slice (some ⟨b, off, none⟩) n cap] w (Res (.int .i64 3) w) := by
  have h0 : ¬ n = 0 := by omega
  have h0' : ((n : Int) == 0) = false := by simp; omega
  go_enter Try.func74, Try.ntmps74
  go_wp2
  go_ret
  exact ⟨rfl, Keep.refl _⟩
theorem checkBuckets_any (v : Value) (l : List (Int × Int)) (w : World) (h : RowAt w v l) : Calls Try.prog 74 #[v] w (Res (.int .i64 (bucketsE l)) w) := by
  unfold bucketsE
  rcases h with ⟨rfl, rfl⟩ | ⟨b, off, n, cap, rfl, rfl, h3, h4, h5⟩
  · exact checkBuckets_nil w
  · by_cases h0 : l.length = 0
    · rw [if_pos h0, h0]; exact checkBuckets_zero b off cap w
    · rw [if_neg h0]
      by_cases h1 : 12 < l.length
      · rw [if_pos h1]; exact checkBuckets_long b off _ cap w h1 (by omega)
      · rw [if_neg h1]; exact checkBuckets_some b off _ cap _ _ w (by omega) (by omega) h4 h5 _ (Lib.hid rfl)
theorem checkBuckets_is (v : Value) (l : List (Int × Int)) (E : Int) (w : World) (h : Hid (RowAt w v l)) (H : Hid (bucketsE l = E)) : Calls Try.prog 74 #[v] w (Res (.int .i64 E) w) := by
  have := checkBuckets_any v l w h.out
  rwa [H.out] at this
set_option maxRecDepth 100000 in
theorem closFlow1_is (B len cap : Nat) (a0 : Option Addr) (l : List (Int × Int)) (E : Int) (w : World) (c0 : w.cell? ⟨B, 0, none⟩ = some (.slice a0 len cap)) (hl : Hid (RowAt w (.slice a0 len cap) l)) (H : Hid (bucketsE l = E)) :
    Calls Try.prog 73 #[.pointer (some ⟨B, 0, none⟩)] w (Res (.int .i64 E) w) := by
  go_enter Try.func73, Try.ntmps73
  go_wp2_with (go_at_call 74; ((with_reducible refine (checkBuckets_is _ l _ _ hl H).mono ?_); rintro e w1 ⟨rfl, k1⟩))
  go_ret
  exact ⟨rfl, k1⟩

/-! ### ContainsFunc -/
def anyN (p : Nat → Bool) (n : Nat) : Bool := (List.range n).any p
theorem anyN_no {p : Nat → Bool} {n : Nat} (h : ∀ i, i < n → p i = false) : anyN p n = false := by
  unfold anyN
  rw [List.any_eq_false]
  intro i hi
  rw [h i (List.mem_range.1 hi)]; simp
theorem anyN_yes {p : Nat → Bool} {n k : Nat} (hk : k < n) (h : p k = true) : anyN p n = true := by
  unfold anyN
  rw [List.any_eq_true]
  exact ⟨k, List.mem_range.2 hk, h⟩
def idxOK (p : Nat → Bool) (n : Nat) (r : Int) : Prop := (0 ≤ r ∧ anyN p n = true) ∨ (r < 0 ∧ anyN p n = false)

set_option maxRecDepth 100000 in
set_option maxHeartbeats 1000000 in
theorem indexFunc_any (g : Nat) (cb : Array Value) (b off n cap : Nat) (a s : Nat → Int) (p : Nat → Bool) (w : World) (eg : ∀ args w, (callFunc g args).run Try.prog w = .ok (.enter g args) w) (hn : n ≤ 12)
    (ha : ∀ j, j < n → w.cell? ⟨b, off + j * 2, none⟩ = some (.int .i64 (a j))) (hs : ∀ j, j < n → w.cell? ⟨b, off + j * 2 + 1, none⟩ = some (.int .i64 (s j)))
    (hf : ∀ (W : World) (i : Nat), Keep w W → i < n → Calls Try.prog g (#[.agg #[.int .i64 (a i), .int .i64 (s i)]] ++ cb) W (Res (.bool (p i)) W)) :
    Calls Try.prog 84 #[.slice (some ⟨b, off, none⟩) n cap, .func (.func g) #[] cb] w fun e w' => (∃ r : Int, e = .returned (.int .i64 r) ∧ idxOK p n r) ∧ Keep w w' := by
  have HA := Lib.hid ha
  have HS := Lib.hid hs
  have HF := Lib.hid hf
  clear ha hs hf
  go_enter Try.func84, Try.ntmps84
  go_wp2
  go_loopw [8] (fun s8 wr => ∃ k : Nat, k ≤ n ∧ s8 = .int .i64 k ∧ Hid ((∀ i, i < k → p i = false) ∧ Keep w wr)) (fun i _ => n - (intOf i).toNat)
  case atStart => exact ⟨0, Nat.zero_le _, rfl, Lib.hid ⟨fun i hi => absurd hi (Nat.not_lt_zero _), Keep.refl _⟩⟩
  case round =>
    obtain ⟨k, hk, rfl, HR⟩ := hrel
    by_cases hlt : k < n
    · have c0 := HR.out.2.some (HA.out k hlt)
      have c1 := HR.out.2.some (HS.out k hlt)
      have hc := HF.out _ k HR.out.2 hlt
      generalize a k = x at *
      generalize s k = y at *
      cases hp : p k <;> rw [hp] at hc
      · have HP := Lib.hid hp
        have HC := Lib.hid hc
        clear hp hc
        go_wp2_with (go_at_fn g; refine (HC.out).mono ?_; rintro e w' ⟨rfl, k1⟩)
        go_roundw
        case rel => exact ⟨k + 1, by omega, rfl, Lib.hid ⟨fun i hi => by
          rcases Nat.lt_or_ge i k with h | h
          · exact HR.out.1 i h
          · obtain rfl : i = k := by omega
            exact HP.out, HR.out.2.trans k1⟩⟩
        case measure => simp [intOf]; omega
      · have HP := Lib.hid hp
        have HC := Lib.hid hc
        clear hp hc
        go_wp2_with (go_at_fn g; refine (HC.out).mono ?_; rintro e w' ⟨rfl, k1⟩)
        go_ret
        exact ⟨⟨(k : Int), rfl, Or.inl ⟨by omega, anyN_yes hlt HP.out⟩⟩, HR.out.2.trans k1⟩
    · obtain rfl : k = n := by omega
      go_wp2
      go_ret
      exact ⟨⟨-1, rfl, Or.inr ⟨by omega, anyN_no HR.out.1⟩⟩, HR.out.2⟩
set_option maxRecDepth 100000 in
theorem containsFunc_is (g : Nat) (cb : Array Value) (b off n cap : Nat) (a s : Nat → Int) (p : Nat → Bool) (t : Bool) (w : World) (eg : ∀ args w, (callFunc g args).run Try.prog w = .ok (.enter g args) w) (hn : n ≤ 12)
    (ha : ∀ j, j < n → w.cell? ⟨b, off + j * 2, none⟩ = some (.int .i64 (a j))) (hs : ∀ j, j < n → w.cell? ⟨b, off + j * 2 + 1, none⟩ = some (.int .i64 (s j)))
    (hf : ∀ (W : World) (i : Nat), Keep w W → i < n → Calls Try.prog g (#[.agg #[.int .i64 (a i), .int .i64 (s i)]] ++ cb) W (Res (.bool (p i)) W)) (H : Hid (anyN p n = t)) :
    Calls Try.prog 77 #[.slice (some ⟨b, off, none⟩) n cap, .func (.func g) #[] cb] w (Res (.bool t) w) := by
  have hI := Lib.hid (indexFunc_any g cb b off n cap a s p w eg hn ha hs hf)
  clear ha hs hf eg
  go_enter Try.func77, Try.ntmps77
  go_wp2_with fail
  refine hI.out.mono ?_
  rintro e w1 ⟨⟨r, rfl, h | h⟩, k1⟩
  · obtain ⟨h1, h2⟩ := h
    obtain rfl : t = true := by rw [← H.out, h2]
    clear h2
    go_wp2
    go_ret
    exact ⟨rfl, k1⟩
  · obtain ⟨h1, h2⟩ := h
    obtain rfl : t = false := by rw [← H.out, h2]
    clear h2
    have h3 : decide (0 ≤ r) = false := by simp; omega
    go_wp2
    go_ret
    exact ⟨rfl, k1⟩

set_option maxRecDepth 100000 in
theorem closSlow_is (Bs : Nat) (B S R : Int) (t : Bool) (w : World) (c0 : w.cell? ⟨Bs, 0, none⟩ = some (.int .i64 R)) (H : Hid (decide (S ≤ R) = t)) :
    Calls Try.prog 78 (#[.agg #[.int .i64 B, .int .i64 S]] ++ #[.pointer (some ⟨Bs, 0, none⟩)]) w (Res (.bool t) w) := by
  have hlt := cellBlock c0
  go_enter Try.func78, Try.ntmps78
  go_wp2_with (go_at_call 79; ((with_reducible refine (slow_is B S R _ _ H).mono ?_); rintro e w1 ⟨rfl, k1⟩))
  go_ret
  exact ⟨rfl, (Keep.alloc (Keep.refl _) _).trans k1⟩

/-- Some bucket is slow. -/
def slowAny (l : List (Int × Int)) (R : Int) : Bool := anyN (fun k => decide (szL l k ≤ R)) l.length
set_option maxRecDepth 100000 in
theorem closFlow3_is (Bl Bs b off n cap : Nat) (l : List (Int × Int)) (R : Int) (E : Int) (w : World) (hn : n ≤ 12) (hl : l.length = n) (c0 : w.cell? ⟨Bl, 0, none⟩ = some (.slice (some ⟨b, off, none⟩) n cap)) (c1 : w.cell? ⟨Bs, 0, none⟩ = some (.int .i64 R))
    (ha : ∀ j, j < n → w.cell? ⟨b, off + j * 2, none⟩ = some (.int .i64 (atL l j))) (hs : ∀ j, j < n → w.cell? ⟨b, off + j * 2 + 1, none⟩ = some (.int .i64 (szL l j))) (H : Hid ((if slowAny l R then 0 else 141) = E)) :
    Calls Try.prog 76 #[.pointer (some ⟨Bl, 0, none⟩), .pointer (some ⟨Bs, 0, none⟩)] w (Res (.int .i64 E) w) := by
  have hmf : ∀ (fn : Fn) (first cap : Array Value) (w : World), (Instr.makeFunc fn first cap).run Try.prog w = .ok (.func fn first cap) w := fun _ _ _ _ => rfl
  cases ht : slowAny l R with
  | true =>
    obtain rfl : E = 0 := by rw [← H.out, ht]; rfl
    have HC := Lib.hid (containsFunc_is 78 #[.pointer (some ⟨Bs, 0, none⟩)] b off n cap (atL l) (szL l) (fun k => decide (szL l k ≤ R)) true w (enters_of Try.func78 (by kernel_rfl) rfl) hn ha hs
      (fun W i hW hi => closSlow_is Bs _ _ R _ W (hW.some c1) (Lib.hid rfl)) (Lib.hid (by rw [← hl]; exact ht)))
    clear ha hs ht H
    go_enter Try.func76, Try.ntmps76
    go_wp2_with (go_at_call 77; refine (HC.out).mono ?_; rintro e w1 ⟨rfl, k1⟩)
    go_ret
    exact ⟨rfl, k1⟩
  | false =>
    obtain rfl : E = 141 := by rw [← H.out, ht]; rfl
    have HC := Lib.hid (containsFunc_is 78 #[.pointer (some ⟨Bs, 0, none⟩)] b off n cap (atL l) (szL l) (fun k => decide (szL l k ≤ R)) false w (enters_of Try.func78 (by kernel_rfl) rfl) hn ha hs
      (fun W i hW hi => closSlow_is Bs _ _ R _ W (hW.some c1) (Lib.hid rfl)) (Lib.hid (by rw [← hl]; exact ht)))
    clear ha hs ht H
    go_enter Try.func76, Try.ntmps76
    go_wp2_with (go_at_call 77; refine (HC.out).mono ?_; rintro e w1 ⟨rfl, k1⟩)
    go_ret
    exact ⟨rfl, k1⟩

/-! ### checkFlow -/
def flowE (l : List (Int × Int)) (R L : Int) : Int := if bucketsE l ≠ 0 then bucketsE l else if serveE R L ≠ 0 then serveE R L else if slowAny l R then 0 else 141
theorem bucketsE_row {l : List (Int × Int)} (h : bucketsE l = 0) : l.length ≠ 0 ∧ l.length ≤ 12 ∧ okEach (atL l) (szL l) l.length = true := by
  unfold bucketsE at h
  split at h
  · cases h
  · split at h
    · cases h
    · split at h
      · exact ⟨by assumption, by omega, by assumption⟩
      · cases h
set_option maxRecDepth 100000 in
set_option maxHeartbeats 1000000 in
theorem checkFlow_is (a0 : Option Addr) (len cap : Nat) (l : List (Int × Int)) (R L : Int) (E : Int) (w : World) (h : Hid (RowAt w (.slice a0 len cap) l)) (H : Hid (flowE l R L = E)) :
    Calls Try.prog 56 #[.slice a0 len cap, .agg #[.int .i64 R, .int .i64 L]] w (Res (.int .i64 E) w) := by
  have hmf : ∀ (fn : Fn) (first cap : Array Value) (w : World), (Instr.makeFunc fn first cap).run Try.prog w = .ok (.func fn first cap) w := fun _ _ _ _ => rfl
  have k0 := ((Keep.alloc (Keep.refl w) (.cells #[.slice a0 len cap] 39)).alloc (.cells #[.int .i64 R, .int .i64 L] 54))
  have c0 : ((w.alloc (.cells #[.slice a0 len cap] 39)).alloc (.cells #[.int .i64 R, .int .i64 L] 54)).cell? ⟨w.heap.size, 0, none⟩ = some (.slice a0 len cap) := by simp [go_sem]
  have c1 : ((w.alloc (.cells #[.slice a0 len cap] 39)).alloc (.cells #[.int .i64 R, .int .i64 L] 54)).cell? ⟨w.heap.size + 1, 0, none⟩ = some (.int .i64 R) := by simp [go_sem]
  have c2 : ((w.alloc (.cells #[.slice a0 len cap] 39)).alloc (.cells #[.int .i64 R, .int .i64 L] 54)).cell? ⟨w.heap.size + 1, 1, none⟩ = some (.int .i64 L) := by simp [go_sem]
  go_enter Try.func56, Try.ntmps56
  go_wp2_with fail
  go_at_call 52
  have kk := k0.alloc (.cells #[.func (.func 73) #[] #[.pointer (some ⟨w.heap.size, 0, none⟩)], .func (.func 75) #[] #[.pointer (some ⟨w.heap.size + 1, 0, none⟩)], .func (.func 76) #[] #[.pointer (some ⟨w.heap.size, 0, none⟩), .pointer (some ⟨w.heap.size + 1, 0, none⟩)]] 97)
  have d0 := cell_alloc_old (.cells #[.func (.func 73) #[] #[.pointer (some ⟨w.heap.size, 0, none⟩)], .func (.func 75) #[] #[.pointer (some ⟨w.heap.size + 1, 0, none⟩)], .func (.func 76) #[] #[.pointer (some ⟨w.heap.size, 0, none⟩), .pointer (some ⟨w.heap.size + 1, 0, none⟩)]] 97) c0
  have d1 := cell_alloc_old (.cells #[.func (.func 73) #[] #[.pointer (some ⟨w.heap.size, 0, none⟩)], .func (.func 75) #[] #[.pointer (some ⟨w.heap.size + 1, 0, none⟩)], .func (.func 76) #[] #[.pointer (some ⟨w.heap.size, 0, none⟩), .pointer (some ⟨w.heap.size + 1, 0, none⟩)]] 97) c1
  have d2 := cell_alloc_old (.cells #[.func (.func 73) #[] #[.pointer (some ⟨w.heap.size, 0, none⟩)], .func (.func 75) #[] #[.pointer (some ⟨w.heap.size + 1, 0, none⟩)], .func (.func 76) #[] #[.pointer (some ⟨w.heap.size, 0, none⟩), .pointer (some ⟨w.heap.size + 1, 0, none⟩)]] 97) c2
  refine (firstError_any (w.heap.size + 1 + 1) 0 3 3 (fun j => match j with | 0 => 73 | 1 => 75 | _ => 76)
    (fun j => match j with | 0 => #[.pointer (some ⟨w.heap.size, 0, none⟩)] | 1 => #[.pointer (some ⟨w.heap.size + 1, 0, none⟩)] | _ => #[.pointer (some ⟨w.heap.size, 0, none⟩), .pointer (some ⟨w.heap.size + 1, 0, none⟩)])
    (fun j => match j with | 0 => bucketsE l | 1 => serveE R L | _ => if slowAny l R then 0 else 141) E _ (Nat.le_refl _) ?_ ?_ ?_ ?_).mono ?_
  · intro j hj
    obtain rfl | rfl | rfl : j = 0 ∨ j = 1 ∨ j = 2 := by omega
    · simp [go_sem]
    · simp [go_sem]
    · simp [go_sem]
  · intro j hj
    obtain rfl | rfl | rfl : j = 0 ∨ j = 1 ∨ j = 2 := by omega
    · exact enters_of Try.func73 (by kernel_rfl) rfl
    · exact enters_of Try.func75 (by kernel_rfl) rfl
    · exact enters_of Try.func76 (by kernel_rfl) rfl
  · intro W j hW hj hE
    obtain rfl | rfl | rfl : j = 0 ∨ j = 1 ∨ j = 2 := by omega
    · exact closFlow1_is _ len cap a0 l _ W (hW.some d0) (Lib.hid (h.out.keep (kk.trans hW))) (Lib.hid rfl)
    · exact closFlow2_is _ R L _ W (hW.some d1) (hW.some d2) (Lib.hid rfl)
    · have hb := bucketsE_row (hE 0 (by omega))
      rcases h.out.keep (kk.trans hW) with ⟨_, h2⟩ | ⟨b, off, n, cap', e1, h2, h3, h4, h5⟩
      · rw [h2] at hb; exact absurd rfl hb.1
      · cases e1
        exact closFlow3_is _ _ b off _ _ l R _ W (by omega) h2 (hW.some d0) (hW.some d1) h4 h5 (Lib.hid rfl)
  · refine Lib.hid ?_
    rw [← H.out]
    unfold flowE
    simp only [firstE]
    by_cases h1 : bucketsE l = 0
    · by_cases h2 : serveE R L = 0
      · simp [h1, h2]
      · simp [h1, h2]
    · simp [h1]
  · clear d0 d1 d2
    rintro e w1 ⟨rfl, k1⟩
    go_wp2
    go_ret
    exact ⟨rfl, kk.trans k1⟩

end Go.Proofs.Ytmamadgikjkjdaa
