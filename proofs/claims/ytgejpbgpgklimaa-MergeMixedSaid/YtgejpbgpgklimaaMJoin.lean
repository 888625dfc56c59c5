/- What merge.Join returns. -/
import Derived.Test.YtgejpbgpgklimaaMProc
namespace Go.Proofs.Ytgejpbgpgklimaa
open Go Go.RowKit

def JoinR (m : Mg) (s : ByteArray) (c : Int) (w : World) (e : Ending) (w' : World) : Prop := e = .returned (.tuple #[.agg #[.bool m.on, .int .i64 m.num, .int .i64 m.next, .string m.data], .string s, .int .i64 c]) ∧ Keep w w'
theorem results_three {P : Program} {fn : Func} {p q r : Tmp} {ty : TypeId} (h : fn.results = #[.cell p ty, .tmp q, .tmp r]) (tmps : Array Value) (w : World) (g : Nat) (t : TypeId) (cs : Array Value) (fr : Nat × Nat) (d : TypeDesc) (u v : Value)
    (hp : tmps.getD p undef = .pointer (some ⟨g, 0, none⟩)) (hq : tmps.getD q undef = u) (hr : tmps.getD r undef = v) (hg : w.heap[g]? = some (.cells cs t fr))
    (hu : P.underlying ty = some d) (hd : (match d with | .struct _ | .array _ _ => true | _ => false) = true) (hi : (P.info? ty).map (·.size) = some cs.size) :
    (results fn tmps).run P w = .ok (.tuple #[.agg cs, u, v]) w := by
  have hp' : tmps[p]?.getD undef = .pointer (some ⟨g, 0, none⟩) := by simpa using hp
  have hq' : tmps[q]?.getD undef = u := by simpa using hq
  have hr' : tmps[r]?.getD undef = v := by simpa using hr
  simp [results, h, hp', hq', hr', asAddr, run_loadVar_row w g t ty cs fr d hg hu hd hi]
theorem three_blocks (w : World) (a b c : Obj) : ∃ w0 A B C, ((w.alloc a).alloc b).alloc c = w0 ∧ w.heap.size = A ∧ w.heap.size + 1 = B ∧ w.heap.size + 1 + 1 = C ∧ w0.heap[A]? = some a ∧ w0.heap[B]? = some b ∧ w0.heap[C]? = some c ∧ Keep w w0 ∧ w.heap.size ≤ A ∧ A < B ∧ B < C ∧ C < w0.heap.size := by
  refine ⟨_, _, _, _, rfl, rfl, rfl, rfl, ?_, ?_, ?_, (((Keep.refl w).alloc a).alloc b).alloc c, Nat.le_refl _, by omega, by omega, by simp⟩
  · exact keepRow (((Keep.refl _).alloc b).alloc c) (heap_alloc_new w a)
  · have := heap_alloc_new (w.alloc a) b
    rw [World.size_alloc] at this
    exact keepRow ((Keep.refl _).alloc c) this
  · have := heap_alloc_new ((w.alloc a).alloc b) c
    rw [World.size_alloc, World.size_alloc] at this
    exact this
set_option maxRecDepth 100000 in
set_option maxHeartbeats 4000000 in
theorem join_is (o : Bool) (n0 x0 : Int) (d0 : ByteArray) (S : Bool) (n c : Int) (X : ByteArray) (m : Mg) (s : ByteArray) (E : Int) (w : World)
    (HM : Hid (joinM ⟨o, n0, x0, d0⟩ ⟨S, n, c, X⟩ = m)) (HS : Hid (joinS ⟨o, n0, x0, d0⟩ ⟨S, n, c, X⟩ = s)) (HE : Hid (joinE ⟨o, n0, x0, d0⟩ ⟨S, n, c, X⟩ = E)) :
    Calls Try.prog 20 #[.agg #[.bool o, .int .i64 n0, .int .i64 x0, .string d0], .agg #[.bool S, .int .i64 n, .int .i64 c, .string X]] w (JoinR m s E w) := by
  have hm := HM.out
  have hs := HS.out
  have he := HE.out
  clear HM HS HE
  have hmf : ∀ (fn : Fn) (first cap : Array Value) (w : World), (Instr.makeFunc fn first cap).run Try.prog w = .ok (.func fn first cap) w := fun _ _ _ _ => rfl
  unfold joinM at hm
  unfold joinS at hs
  unfold joinE at he
  obtain ⟨cm, hcm⟩ : ∃ c, errM ⟨o, n0, x0, d0⟩ = c := ⟨_, rfl⟩
  obtain ⟨cp, hcp⟩ : ∃ r, errP ⟨S, n, c, X⟩ = r := ⟨_, rfl⟩
  have HCM := Lib.hid hcm
  have HCP := Lib.hid hcp
  go_enter Try.func20, Try.ntmps20
  go_upto_region 1 with fail
  obtain ⟨w0, A, B, C, hw, hAe, hBe, hCe, hA, hB, hC, K, hle, hAB, hBC, hCl⟩ := three_blocks w (.cells #[.bool o, .int .i64 n0, .int .i64 x0, .string d0] 43) (.cells #[.bool S, .int .i64 n, .int .i64 c, .string X] 45) (.cells #[.bool false, .int .i64 0, .int .i64 0, .string ⟨#[]⟩] 43)
  rw [hw, hCe, hBe, hAe]
  clear hw hAe hBe hCe
  replace hA : MgT 43 w0 A o n0 x0 d0 := hA
  replace hB : MgT 45 w0 B S n c X := hB
  replace hC : MgT 43 w0 C false 0 0 ⟨#[]⟩ := hC
  obtain ⟨a0, a1, a2, a3⟩ := mg_cells hA
  have HL := Lib.hid (And.intro hle (And.intro hAB hBC))
  cases hok : Mg.okB ⟨o, n0, x0, d0⟩ with
  | false =>
    rw [hok] at hm hs he
    simp only [Bool.false_and, Bool.false_eq_true, if_false] at hm hs he
    subst hm hs he
    obtain rfl : cm = 182 := by rw [← hcm]; unfold errM; rw [hok]; rfl
    go_wp2_with (first | (go_at_call 22; ((with_reducible refine (check_is o n0 x0 d0 _ _ HCM).mono ?_); rintro e' w1 ⟨rfl, k1⟩; have hC := mg_k hC k1)) | (refine wpList_store_row rfl 43 _ _ rfl C rfl 43 _ #[.bool false, .int .i64 0, .int .i64 0, .string ⟨#[]⟩] rfl hC rfl (mg_one _ _ _ _) info_merge ?_))
    refine bodyPost_ret (results_three Try.results20 _ _ C _ #[.bool false, .int .i64 0, .int .i64 0, .string ⟨#[]⟩] _ _ _ _ rfl rfl rfl (mg_row hC _ _ _ _) Try.underlying43 rfl info_merge) rfl ⟨rfl, (K.trans k1).setRow (by omega) _⟩
  | true =>
    rw [hok] at hm hs he
    simp only [Bool.true_and, if_true] at hm hs he
    obtain rfl : cm = 0 := by rw [← hcm]; unfold errM; rw [hok]; rfl
    cases hpk : Pc.okB ⟨S, n, c, X⟩ with
    | false =>
      rw [hpk] at hm hs
      simp only [Bool.false_eq_true, if_false] at hm hs
      subst hm hs
      obtain rfl : cp = 181 := by rw [← hcp]; unfold errP; rw [hpk]; rfl
      obtain rfl : E = 181 := by rw [← he]; exact hcp
      go_wp2_with (first | (go_at_call 22; ((with_reducible refine (check_is o n0 x0 d0 _ _ HCM).mono ?_); rintro e' w1 ⟨rfl, k1⟩; have hC := mg_k hC k1; obtain ⟨b0, b1, b2, b3⟩ := mg_cells (mg_k hB k1))) | (go_at_call 24; ((with_reducible refine (checkPiece_is S n c X _ _ HCP).mono ?_); rintro e' w2 ⟨rfl, k2⟩; have hC := mg_k hC k2)) | (refine wpList_store_row rfl 43 _ _ rfl C rfl 43 _ #[.bool false, .int .i64 0, .int .i64 0, .string ⟨#[]⟩] rfl hC rfl (mg_one _ _ _ _) info_merge ?_))
      refine bodyPost_ret (results_three Try.results20 _ _ C _ #[.bool false, .int .i64 0, .int .i64 0, .string ⟨#[]⟩] _ _ _ _ rfl rfl rfl (mg_row hC _ _ _ _) Try.underlying43 rfl info_merge) rfl ⟨rfl, ((K.trans k1).trans k2).setRow (by omega) _⟩
    | true =>
      rw [hpk] at hm hs
      simp only [if_true] at hm hs
      obtain rfl : cp = 0 := by rw [← hcp]; unfold errP; rw [hpk]; rfl
      obtain rfl : E = 0 := by rw [← he]; exact hcp
      unfold stepM at hm hs
      have hx := (okP_iff.1 hpk).2.2.2
      have hd := okM_iff.1 hok
      have hds : d0.size ≤ 1518 ∧ 0 ≤ x0 ∧ x0 ≤ 3 := by
        rcases hd with hd | hd
        · have h1 := congrArg Mg.data hd
          have h2 := congrArg Mg.next hd
          simp only [zeroM] at h1 h2
          rw [h1, h2]
          decide
        · simp only at hd
          omega
      clear hd
      cases S with
      | true =>
        simp only [if_true] at hm hs
        have HR : Hid (recv X n 0 = (m, s)) := Lib.hid (by rw [← hm, ← hs])
        clear hm hs
        go_wp2_with (first | (go_at_call 22; ((with_reducible refine (check_is o n0 x0 d0 _ _ HCM).mono ?_); rintro e' w1 ⟨rfl, k1⟩; have hA := mg_k hA k1; have hB := mg_k hB k1; have hC := mg_k hC k1; obtain ⟨b0, b1, b2, b3⟩ := mg_cells hB)) | (go_at_call 24; ((with_reducible refine (checkPiece_is true n c X _ _ HCP).mono ?_); rintro e' w2 ⟨rfl, k2⟩; have hA := mg_k hA k2; have hB := mg_k hB k2; have hC := mg_k hC k2; obtain ⟨a0, a1, a2, a3⟩ := mg_cells hA; obtain ⟨b0, b1, b2, b3⟩ := mg_cells hB; have hBl := mg_lt hB)) | (go_at_call 45; ((with_reducible refine (begin_is _ o n0 x0 d0 true n c X _ (mg_new _ _ _ _ _ _) m s HR).mono ?_); rintro e' w3 ⟨rfl, hR, k3⟩; have hC := mg_x (mg_k hC ((Keep.refl _).alloc _)) k3 (by have := mg_lt hC; omega); obtain ⟨r0, r1, r2, r3⟩ := mg_cells hR)) | (refine wpList_store_row rfl 43 _ _ rfl C rfl 43 _ #[.bool m.on, .int .i64 m.num, .int .i64 m.next, .string m.data] rfl hC rfl (mg_one _ _ _ _) info_merge ?_))
        refine bodyPost_ret (results_three Try.results20 _ _ C _ #[.bool m.on, .int .i64 m.num, .int .i64 m.next, .string m.data] _ _ _ _ rfl rfl rfl (mg_row hC _ _ _ _) Try.underlying43 rfl info_merge) rfl ⟨rfl, ((((K.trans k1).trans k2).alloc _).byX k3 (by have := k1.size; have := k2.size; have := K.size; omega)).setRow (by omega) _⟩
      | false =>
        simp only [Bool.false_eq_true, if_false] at hm hs
        have HR : Hid ((if fitsB ⟨o, n0, x0, d0⟩ ⟨false, n, c, X⟩ then recv (d0 ++ X) n ((x0 + 1) % 4) else (zeroM, ⟨#[]⟩)) = (m, s)) := Lib.hid (by rw [← hm, ← hs])
        clear hm hs
        go_wp2_with (first | (go_at_call 22; ((with_reducible refine (check_is o n0 x0 d0 _ _ HCM).mono ?_); rintro e' w1 ⟨rfl, k1⟩; have hA := mg_k hA k1; have hB := mg_k hB k1; have hC := mg_k hC k1; obtain ⟨b0, b1, b2, b3⟩ := mg_cells hB)) | (go_at_call 24; ((with_reducible refine (checkPiece_is false n c X _ _ HCP).mono ?_); rintro e' w2 ⟨rfl, k2⟩; have hA := mg_k hA k2; have hB := mg_k hB k2; have hC := mg_k hC k2; obtain ⟨a0, a1, a2, a3⟩ := mg_cells hA; obtain ⟨b0, b1, b2, b3⟩ := mg_cells hB; have hBl := mg_lt hB)) | (go_at_call 44; ((with_reducible refine (proceed_is _ o n0 x0 d0 false n c X _ hds.1 hx.2 hds.2 (mg_new _ _ _ _ _ _) m s HR).mono ?_); rintro e' w3 ⟨rfl, hR, k3⟩; have hC := mg_x (mg_k hC ((Keep.refl _).alloc _)) k3 (by have := mg_lt hC; omega); obtain ⟨r0, r1, r2, r3⟩ := mg_cells hR)) | (refine wpList_store_row rfl 43 _ _ rfl C rfl 43 _ #[.bool m.on, .int .i64 m.num, .int .i64 m.next, .string m.data] rfl hC rfl (mg_one _ _ _ _) info_merge ?_))
        refine bodyPost_ret (results_three Try.results20 _ _ C _ #[.bool m.on, .int .i64 m.num, .int .i64 m.next, .string m.data] _ _ _ _ rfl rfl rfl (mg_row hC _ _ _ _) Try.underlying43 rfl info_merge) rfl ⟨rfl, ((((K.trans k1).trans k2).alloc _).byX k3 (by have := k1.size; have := k2.size; have := K.size; omega)).setRow (by omega) _⟩
end Go.Proofs.Ytgejpbgpgklimaa
