/- What the reference's in, Right and Check return. -/
import Derived.Test.YtmgnmkdjphnaoaaFEnc
import Derived.Deep.Cut
import Derived.Deep.DeepCutAuto
namespace Go.Proofs.Ytmgnmkdjphnaoaa
open Go Go.RowKit

set_option maxRecDepth 100000 in
theorem in_any (m n : Int) (w : World) : Calls Try.prog 50 #[.int .i64 n, .int .i64 m] w fun e w' => e = .returned (.bool (upB m n)) ∧ w' = w := by
  unfold upB
  by_cases h1 : 0 ≤ n
  · by_cases h2 : n ≤ m
    · rw [show decide (0 ≤ n ∧ n ≤ m) = true from decide_eq_true ⟨h1, h2⟩]
      go_enter Try.func50, Try.ntmps50
      go_wp2
      go_ret
      exact ⟨rfl, rfl⟩
    · rw [show decide (0 ≤ n ∧ n ≤ m) = false from decide_eq_false (by omega)]
      go_enter Try.func50, Try.ntmps50
      go_wp2
      go_ret
      exact ⟨rfl, rfl⟩
  · rw [show decide (0 ≤ n ∧ n ≤ m) = false from decide_eq_false (by omega)]
    go_enter Try.func50, Try.ntmps50
    go_wp2
    go_ret
    exact ⟨rfl, rfl⟩
theorem in_is (m n : Int) (b : Bool) (w : World) (H : Hid (upB m n = b)) : Calls Try.prog 50 #[.int .i64 n, .int .i64 m] w fun e w' => e = .returned (.bool b) ∧ w' = w := by
  have := in_any m n w
  rwa [H.out] at this
def rB1 (D S P V N : Int) : Bool := upB 281474976710655 D && upB 281474976710655 S && upB 7 P && upB 4094 V && upB 65535 N
def rB2 (T : Bool) (P V : Int) (Q : Bool) (N : Int) : Bool := (T || (decide (P = 0) && decide (V = 0))) && (Q || decide (N = 0))
theorem ok_ref (D S P V N Y : Int) (T Q : Bool) (X : ByteArray) : Frm.ok ⟨D, S, T, P, V, Q, N, Y, X⟩ = (rB1 D S P V N && rB2 T P V Q N && (tyB Y && szB Q X.size)) := by
  rw [Bool.eq_iff_iff]
  unfold rB1 rB2 upB
  rw [ok_iff]
  simp only [Bool.and_eq_true, decide_eq_true_eq, Bool.or_eq_true, tyB, szB, only]
  cases T <;> cases Q <;> simp <;> omega

set_option maxRecDepth 100000 in
set_option maxHeartbeats 4000000 in
theorem right_is (D S P V N Y : Int) (T Q : Bool) (X : ByteArray) (c : Bool) (w : World) (H : Hid (Frm.ok ⟨D, S, T, P, V, Q, N, Y, X⟩ = c)) : Calls Try.prog 30 #[.agg #[.int .i64 D, .int .i64 S, .bool T, .int .i64 P, .int .i64 V, .bool Q, .int .i64 N, .int .i64 Y, .string X]] w (Res (.bool c) w) := by
  have he := H.out
  clear H
  rw [ok_ref] at he
  go_enter Try.func30, Try.ntmps30
  go_upto_region 1 with fail
  have c0 : (w.alloc (.cells #[.int .i64 D, .int .i64 S, .bool T, .int .i64 P, .int .i64 V, .bool Q, .int .i64 N, .int .i64 Y, .string X] 23)).cell? ⟨w.heap.size, 0, none⟩ = some (.int .i64 D) := by simp [go_sem]
  have c1 : (w.alloc (.cells #[.int .i64 D, .int .i64 S, .bool T, .int .i64 P, .int .i64 V, .bool Q, .int .i64 N, .int .i64 Y, .string X] 23)).cell? ⟨w.heap.size, 1, none⟩ = some (.int .i64 S) := by simp [go_sem]
  have c2 : (w.alloc (.cells #[.int .i64 D, .int .i64 S, .bool T, .int .i64 P, .int .i64 V, .bool Q, .int .i64 N, .int .i64 Y, .string X] 23)).cell? ⟨w.heap.size, 2, none⟩ = some (.bool T) := by simp [go_sem]
  have c3 : (w.alloc (.cells #[.int .i64 D, .int .i64 S, .bool T, .int .i64 P, .int .i64 V, .bool Q, .int .i64 N, .int .i64 Y, .string X] 23)).cell? ⟨w.heap.size, 3, none⟩ = some (.int .i64 P) := by simp [go_sem]
  have c4 : (w.alloc (.cells #[.int .i64 D, .int .i64 S, .bool T, .int .i64 P, .int .i64 V, .bool Q, .int .i64 N, .int .i64 Y, .string X] 23)).cell? ⟨w.heap.size, 4, none⟩ = some (.int .i64 V) := by simp [go_sem]
  have c5 : (w.alloc (.cells #[.int .i64 D, .int .i64 S, .bool T, .int .i64 P, .int .i64 V, .bool Q, .int .i64 N, .int .i64 Y, .string X] 23)).cell? ⟨w.heap.size, 5, none⟩ = some (.bool Q) := by simp [go_sem]
  have c6 : (w.alloc (.cells #[.int .i64 D, .int .i64 S, .bool T, .int .i64 P, .int .i64 V, .bool Q, .int .i64 N, .int .i64 Y, .string X] 23)).cell? ⟨w.heap.size, 6, none⟩ = some (.int .i64 N) := by simp [go_sem]
  have c7 : (w.alloc (.cells #[.int .i64 D, .int .i64 S, .bool T, .int .i64 P, .int .i64 V, .bool Q, .int .i64 N, .int .i64 Y, .string X] 23)).cell? ⟨w.heap.size, 7, none⟩ = some (.int .i64 Y) := by simp [go_sem]
  have c8 : (w.alloc (.cells #[.int .i64 D, .int .i64 S, .bool T, .int .i64 P, .int .i64 V, .bool Q, .int .i64 N, .int .i64 Y, .string X] 23)).cell? ⟨w.heap.size, 8, none⟩ = some (.string X) := by simp [go_sem]
  have K0 := Lib.hid ((Keep.refl w).alloc (.cells #[.int .i64 D, .int .i64 S, .bool T, .int .i64 P, .int .i64 V, .bool Q, .int .i64 N, .int .i64 Y, .string X] 23))
  generalize (w.alloc (.cells #[.int .i64 D, .int .i64 S, .bool T, .int .i64 P, .int .i64 V, .bool Q, .int .i64 N, .int .i64 Y, .string X] 23)) = w0 at *
  generalize w.heap.size = B at *
  go_cut [31] (fun v wx => v = .bool (!rB1 D S P V N) ∧ w0 = wx)
  case first =>
    obtain ⟨r, hr⟩ : ∃ r, rB1 D S P V N = r := ⟨_, rfl⟩
    have HR := Lib.hid hr
    unfold rB1 at hr
    obtain ⟨a1, h1⟩ : ∃ a, upB 281474976710655 D = a := ⟨_, rfl⟩
    obtain ⟨a2, h2⟩ : ∃ a, upB 281474976710655 S = a := ⟨_, rfl⟩
    obtain ⟨a3, h3⟩ : ∃ a, upB 7 P = a := ⟨_, rfl⟩
    obtain ⟨a4, h4⟩ : ∃ a, upB 4094 V = a := ⟨_, rfl⟩
    obtain ⟨a5, h5⟩ : ∃ a, upB 65535 N = a := ⟨_, rfl⟩
    rw [h1, h2, h3, h4, h5] at hr
    have H1 := Lib.hid h1
    have H2 := Lib.hid h2
    have H3 := Lib.hid h3
    have H4 := Lib.hid h4
    have H5 := Lib.hid h5
    clear h1 h2 h3 h4 h5 he
    cases a1 with
    | false =>
      obtain rfl : r = false := by rw [← hr]; simp
      go_wp2_with (first | (go_at_call 50; ((with_reducible refine (in_is _ D _ _ H1).mono ?_); rintro e' w1 ⟨rfl, hw1⟩; subst hw1)) | (go_at_call 50; ((with_reducible refine (in_is _ S _ _ H2).mono ?_); rintro e' w1 ⟨rfl, hw1⟩; subst hw1)) | (go_at_call 50; ((with_reducible refine (in_is _ P _ _ H3).mono ?_); rintro e' w1 ⟨rfl, hw1⟩; subst hw1)) | (go_at_call 50; ((with_reducible refine (in_is _ V _ _ H4).mono ?_); rintro e' w1 ⟨rfl, hw1⟩; subst hw1)) | (go_at_call 50; ((with_reducible refine (in_is _ N _ _ H5).mono ?_); rintro e' w1 ⟨rfl, hw1⟩; subst hw1)))
      go_meet
      exact ⟨by rw [HR.out]; rfl, rfl⟩
    | true =>
      cases a2 with
      | false =>
        obtain rfl : r = false := by rw [← hr]; simp
        go_wp2_with (first | (go_at_call 50; ((with_reducible refine (in_is _ D _ _ H1).mono ?_); rintro e' w1 ⟨rfl, hw1⟩; subst hw1)) | (go_at_call 50; ((with_reducible refine (in_is _ S _ _ H2).mono ?_); rintro e' w1 ⟨rfl, hw1⟩; subst hw1)) | (go_at_call 50; ((with_reducible refine (in_is _ P _ _ H3).mono ?_); rintro e' w1 ⟨rfl, hw1⟩; subst hw1)) | (go_at_call 50; ((with_reducible refine (in_is _ V _ _ H4).mono ?_); rintro e' w1 ⟨rfl, hw1⟩; subst hw1)) | (go_at_call 50; ((with_reducible refine (in_is _ N _ _ H5).mono ?_); rintro e' w1 ⟨rfl, hw1⟩; subst hw1)))
        go_meet
        exact ⟨by rw [HR.out]; rfl, rfl⟩
      | true =>
        cases a3 with
        | false =>
          obtain rfl : r = false := by rw [← hr]; simp
          go_wp2_with (first | (go_at_call 50; ((with_reducible refine (in_is _ D _ _ H1).mono ?_); rintro e' w1 ⟨rfl, hw1⟩; subst hw1)) | (go_at_call 50; ((with_reducible refine (in_is _ S _ _ H2).mono ?_); rintro e' w1 ⟨rfl, hw1⟩; subst hw1)) | (go_at_call 50; ((with_reducible refine (in_is _ P _ _ H3).mono ?_); rintro e' w1 ⟨rfl, hw1⟩; subst hw1)) | (go_at_call 50; ((with_reducible refine (in_is _ V _ _ H4).mono ?_); rintro e' w1 ⟨rfl, hw1⟩; subst hw1)) | (go_at_call 50; ((with_reducible refine (in_is _ N _ _ H5).mono ?_); rintro e' w1 ⟨rfl, hw1⟩; subst hw1)))
          go_meet
          exact ⟨by rw [HR.out]; rfl, rfl⟩
        | true =>
          cases a4 with
          | false =>
            obtain rfl : r = false := by rw [← hr]; simp
            go_wp2_with (first | (go_at_call 50; ((with_reducible refine (in_is _ D _ _ H1).mono ?_); rintro e' w1 ⟨rfl, hw1⟩; subst hw1)) | (go_at_call 50; ((with_reducible refine (in_is _ S _ _ H2).mono ?_); rintro e' w1 ⟨rfl, hw1⟩; subst hw1)) | (go_at_call 50; ((with_reducible refine (in_is _ P _ _ H3).mono ?_); rintro e' w1 ⟨rfl, hw1⟩; subst hw1)) | (go_at_call 50; ((with_reducible refine (in_is _ V _ _ H4).mono ?_); rintro e' w1 ⟨rfl, hw1⟩; subst hw1)) | (go_at_call 50; ((with_reducible refine (in_is _ N _ _ H5).mono ?_); rintro e' w1 ⟨rfl, hw1⟩; subst hw1)))
            go_meet
            exact ⟨by rw [HR.out]; rfl, rfl⟩
          | true =>
            cases a5 with
            | false =>
              obtain rfl : r = false := by rw [← hr]; simp
              go_wp2_with (first | (go_at_call 50; ((with_reducible refine (in_is _ D _ _ H1).mono ?_); rintro e' w1 ⟨rfl, hw1⟩; subst hw1)) | (go_at_call 50; ((with_reducible refine (in_is _ S _ _ H2).mono ?_); rintro e' w1 ⟨rfl, hw1⟩; subst hw1)) | (go_at_call 50; ((with_reducible refine (in_is _ P _ _ H3).mono ?_); rintro e' w1 ⟨rfl, hw1⟩; subst hw1)) | (go_at_call 50; ((with_reducible refine (in_is _ V _ _ H4).mono ?_); rintro e' w1 ⟨rfl, hw1⟩; subst hw1)) | (go_at_call 50; ((with_reducible refine (in_is _ N _ _ H5).mono ?_); rintro e' w1 ⟨rfl, hw1⟩; subst hw1)))
              go_meet
              exact ⟨by rw [HR.out]; rfl, rfl⟩
            | true =>
              obtain rfl : r = true := hr.symm
              go_wp2_with (first | (go_at_call 50; ((with_reducible refine (in_is _ D _ _ H1).mono ?_); rintro e' w1 ⟨rfl, hw1⟩; subst hw1)) | (go_at_call 50; ((with_reducible refine (in_is _ S _ _ H2).mono ?_); rintro e' w1 ⟨rfl, hw1⟩; subst hw1)) | (go_at_call 50; ((with_reducible refine (in_is _ P _ _ H3).mono ?_); rintro e' w1 ⟨rfl, hw1⟩; subst hw1)) | (go_at_call 50; ((with_reducible refine (in_is _ V _ _ H4).mono ?_); rintro e' w1 ⟨rfl, hw1⟩; subst hw1)) | (go_at_call 50; ((with_reducible refine (in_is _ N _ _ H5).mono ?_); rintro e' w1 ⟨rfl, hw1⟩; subst hw1)))
              go_meet
              exact ⟨by rw [HR.out]; rfl, rfl⟩
  case rest =>
    obtain ⟨rfl, rfl⟩ := hcut
    cases h1 : rB1 D S P V N with
    | false =>
      obtain rfl : c = false := by rw [← he, h1]; simp
      clear he h1
      go_wp2
      go_ret
      exact ⟨rfl, K0.out⟩
    | true =>
      rw [h1, Bool.true_and] at he
      clear h1
      go_upto_region 3 with fail
      go_cut [54] (fun v wx => v = .bool (!rB2 T P V Q N) ∧ w0 = wx)
      case first =>
        obtain ⟨r, hr⟩ : ∃ r, rB2 T P V Q N = r := ⟨_, rfl⟩
        have HR := Lib.hid hr
        unfold rB2 at hr
        clear he
        cases T with
        | true =>
          cases Q with
          | true =>
            obtain rfl : r = true := by rw [← hr]; simp
            go_wp2
            go_meet
            exact ⟨by rw [HR.out]; rfl, rfl⟩
          | false =>
            by_cases hN : N = 0
            · have hNb : (N != 0) = false := by simp [hN]
              obtain rfl : r = true := by rw [← hr]; simp [hN]
              go_wp2
              go_meet
              exact ⟨by rw [HR.out]; rfl, rfl⟩
            · have hNb : (N != 0) = true := by simp [hN]
              obtain rfl : r = false := by rw [← hr]; simp [hN]
              go_wp2
              go_meet
              exact ⟨by rw [HR.out]; rfl, rfl⟩
        | false =>
          by_cases hP : P = 0
          · have hPb : (P != 0) = false := by simp [hP]
            by_cases hV : V = 0
            · have hVb : (V != 0) = false := by simp [hV]
              cases Q with
              | true =>
                obtain rfl : r = true := by rw [← hr]; simp [hP, hV]
                go_wp2
                go_meet
                exact ⟨by rw [HR.out]; rfl, rfl⟩
              | false =>
                by_cases hN : N = 0
                · have hNb : (N != 0) = false := by simp [hN]
                  obtain rfl : r = true := by rw [← hr]; simp [hP, hV, hN]
                  go_wp2
                  go_meet
                  exact ⟨by rw [HR.out]; rfl, rfl⟩
                · have hNb : (N != 0) = true := by simp [hN]
                  obtain rfl : r = false := by rw [← hr]; simp [hN]
                  go_wp2
                  go_meet
                  exact ⟨by rw [HR.out]; rfl, rfl⟩
            · have hVb : (V != 0) = true := by simp [hV]
              obtain rfl : r = false := by rw [← hr]; simp [hV]
              go_wp2
              go_meet
              exact ⟨by rw [HR.out]; rfl, rfl⟩
          · have hPb : (P != 0) = true := by simp [hP]
            obtain rfl : r = false := by rw [← hr]; simp [hP]
            go_wp2
            go_meet
            exact ⟨by rw [HR.out]; rfl, rfl⟩
      case rest =>
        obtain ⟨rfl, rfl⟩ := hcut
        cases h2 : rB2 T P V Q N with
        | false =>
          obtain rfl : c = false := by rw [← he, h2]; simp
          clear he h2
          go_wp2
          go_ret
          exact ⟨rfl, K0.out⟩
        | true =>
          rw [h2, Bool.true_and] at he
          clear h2
          unfold szB at he
          cases Q with
          | true =>
            have he : (tyB Y && decide ((X.size : Int) ≤ 1494)) = c := by rw [← he]; rfl
            unfold tyB at he
            by_cases y0 : Y = 0
            · have q0 : (Y == 0) = true := by simp [y0]
              by_cases hX : (X.size : Int) ≤ 1494
              · obtain rfl : c = true := by rw [← he, decide_eq_true hX, Bool.and_true]; exact decide_eq_true (by omega)
                have hXb : decide ((X.size : Int) ≤ 1494) = true := decide_eq_true hX
                clear he
                go_wp2
                go_ret
                exact ⟨rfl, K0.out⟩
              · obtain rfl : c = false := by rw [← he, decide_eq_false hX, Bool.and_false]
                have hXb : decide ((X.size : Int) ≤ 1494) = false := decide_eq_false hX
                clear he
                go_wp2
                go_ret
                exact ⟨rfl, K0.out⟩
            · have q0 : (Y == 0) = false := by simp [y0]
              by_cases y1 : 1536 ≤ Y
              · by_cases y2 : Y ≤ 65535
                · by_cases y3 : Y = 33024
                  · have q3 : (Y != 33024) = false := by simp [y3]
                    obtain rfl : c = false := by rw [← he, decide_eq_false (by omega), Bool.false_and]
                    clear he
                    go_wp2
                    go_ret
                    exact ⟨rfl, K0.out⟩
                  · have q3 : (Y != 33024) = true := by simp [y3]
                    by_cases y4 : Y = 61889
                    · have q4 : (Y != 61889) = false := by simp [y4]
                      obtain rfl : c = false := by rw [← he, decide_eq_false (by omega), Bool.false_and]
                      clear he
                      go_wp2
                      go_ret
                      exact ⟨rfl, K0.out⟩
                    · have q4 : (Y != 61889) = true := by simp [y4]
                      by_cases hX : (X.size : Int) ≤ 1494
                      · obtain rfl : c = true := by rw [← he, decide_eq_true hX, Bool.and_true]; exact decide_eq_true (by omega)
                        have hXb : decide ((X.size : Int) ≤ 1494) = true := decide_eq_true hX
                        clear he
                        go_wp2
                        go_ret
                        exact ⟨rfl, K0.out⟩
                      · obtain rfl : c = false := by rw [← he, decide_eq_false hX, Bool.and_false]
                        have hXb : decide ((X.size : Int) ≤ 1494) = false := decide_eq_false hX
                        clear he
                        go_wp2
                        go_ret
                        exact ⟨rfl, K0.out⟩
                · have y2b : decide (Y ≤ 65535) = false := decide_eq_false y2
                  obtain rfl : c = false := by rw [← he, decide_eq_false (by omega), Bool.false_and]
                  clear he
                  go_wp2
                  go_ret
                  exact ⟨rfl, K0.out⟩
              · have y1b : decide (1536 ≤ Y) = false := decide_eq_false y1
                obtain rfl : c = false := by rw [← he, decide_eq_false (by omega), Bool.false_and]
                clear he
                go_wp2
                go_ret
                exact ⟨rfl, K0.out⟩
          | false =>
            have he : (tyB Y && decide ((X.size : Int) ≤ 1500)) = c := by rw [← he]; rfl
            unfold tyB at he
            by_cases y0 : Y = 0
            · have q0 : (Y == 0) = true := by simp [y0]
              by_cases hX : (X.size : Int) ≤ 1500
              · obtain rfl : c = true := by rw [← he, decide_eq_true hX, Bool.and_true]; exact decide_eq_true (by omega)
                have hXb : decide ((X.size : Int) ≤ 1500) = true := decide_eq_true hX
                clear he
                go_wp2
                go_ret
                exact ⟨rfl, K0.out⟩
              · obtain rfl : c = false := by rw [← he, decide_eq_false hX, Bool.and_false]
                have hXb : decide ((X.size : Int) ≤ 1500) = false := decide_eq_false hX
                clear he
                go_wp2
                go_ret
                exact ⟨rfl, K0.out⟩
            · have q0 : (Y == 0) = false := by simp [y0]
              by_cases y1 : 1536 ≤ Y
              · by_cases y2 : Y ≤ 65535
                · by_cases y3 : Y = 33024
                  · have q3 : (Y != 33024) = false := by simp [y3]
                    obtain rfl : c = false := by rw [← he, decide_eq_false (by omega), Bool.false_and]
                    clear he
                    go_wp2
                    go_ret
                    exact ⟨rfl, K0.out⟩
                  · have q3 : (Y != 33024) = true := by simp [y3]
                    by_cases y4 : Y = 61889
                    · have q4 : (Y != 61889) = false := by simp [y4]
                      obtain rfl : c = false := by rw [← he, decide_eq_false (by omega), Bool.false_and]
                      clear he
                      go_wp2
                      go_ret
                      exact ⟨rfl, K0.out⟩
                    · have q4 : (Y != 61889) = true := by simp [y4]
                      by_cases hX : (X.size : Int) ≤ 1500
                      · obtain rfl : c = true := by rw [← he, decide_eq_true hX, Bool.and_true]; exact decide_eq_true (by omega)
                        have hXb : decide ((X.size : Int) ≤ 1500) = true := decide_eq_true hX
                        clear he
                        go_wp2
                        go_ret
                        exact ⟨rfl, K0.out⟩
                      · obtain rfl : c = false := by rw [← he, decide_eq_false hX, Bool.and_false]
                        have hXb : decide ((X.size : Int) ≤ 1500) = false := decide_eq_false hX
                        clear he
                        go_wp2
                        go_ret
                        exact ⟨rfl, K0.out⟩
                · have y2b : decide (Y ≤ 65535) = false := decide_eq_false y2
                  obtain rfl : c = false := by rw [← he, decide_eq_false (by omega), Bool.false_and]
                  clear he
                  go_wp2
                  go_ret
                  exact ⟨rfl, K0.out⟩
              · have y1b : decide (1536 ≤ Y) = false := decide_eq_false y1
                obtain rfl : c = false := by rw [← he, decide_eq_false (by omega), Bool.false_and]
                clear he
                go_wp2
                go_ret
                exact ⟨rfl, K0.out⟩
set_option maxRecDepth 100000 in
theorem refCheck_is (D S P V N Y : Int) (T Q : Bool) (X : ByteArray) (c : Int) (w : World) (H : Hid (Frm.err ⟨D, S, T, P, V, Q, N, Y, X⟩ = c)) : Calls Try.prog 16 #[.agg #[.int .i64 D, .int .i64 S, .bool T, .int .i64 P, .int .i64 V, .bool Q, .int .i64 N, .int .i64 Y, .string X]] w (Res (.int .i64 c) w) := by
  have hc := H.out
  unfold Frm.err at hc
  cases hok : Frm.ok ⟨D, S, T, P, V, Q, N, Y, X⟩ with
  | true =>
    obtain rfl : c = 0 := by rw [← hc, hok]; rfl
    have HO := Lib.hid hok
    clear hc hok
    go_enter Try.func16, Try.ntmps16
    go_wp2_with (go_at_call 30; ((with_reducible refine (right_is D S P V N Y T Q X _ _ HO).mono ?_); rintro e' w1 ⟨rfl, k1⟩))
    go_ret
    exact ⟨rfl, (((Keep.refl w).alloc _).trans k1)⟩
  | false =>
    obtain rfl : c = 170 := by rw [← hc, hok]; rfl
    have HO := Lib.hid hok
    clear hc hok
    go_enter Try.func16, Try.ntmps16
    go_wp2_with (go_at_call 30; ((with_reducible refine (right_is D S P V N Y T Q X _ _ HO).mono ?_); rintro e' w1 ⟨rfl, k1⟩))
    go_ret
    exact ⟨rfl, (((Keep.refl w).alloc _).trans k1)⟩
end Go.Proofs.Ytmgnmkdjphnaoaa
