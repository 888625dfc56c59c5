/- BucketMerges' walk: two conforming traces merged conform with the buckets' sum, and a part of a conforming trace conforms. Written by genmerges.py. -/
import Derived.Test.YtaknbjjcgcmdlaaLawLevels
import Derived.Test.YtaknbjjcgcmdlaaMergeM
import Derived.Test.YtaknbjjcgcmdlaaPairArg
import Derived.Test.YtaknbjjcgcmdlaaLin
import Derived.Deep.CutBlock
import Derived.Deep.DeepCutAuto
import Derived.BigRegion
namespace Go.Proofs.Ytaknbjjcgcmdlaa
open Go Go.RowKit

theorem yielded_undef {ops : Array Oper} {T : Array Value} {j d : Nat} (hj : dstOf ops j = some d) (h : T[d]? = some undef) : yielded ops T j = none := by
  unfold dstOf at hj
  unfold yielded
  rw [hj]
  simp [h]
  rfl
/-- An operation whose guard was passed over. -/
theorem LinStep.unmet {P : Program} {ops : Array Oper} {T0 : Array Value} {W0 : World} {F : Nat → Value → World → Prop} {k : Nat} {o : Oper} (j d : Nat) (b : Bool) (hg : o.guard = some (j, b)) (hj : dstOf ops j = some d) (hw : waitsFor o j = true) (hy : ∀ v w, F j v w → v = undef) (hF : ∀ w, F k undef w) :
    LinStep P T0 W0 ops F k o := by
  intro Q bb T w hn hJ hd K hK
  obtain ⟨v, hv, hf⟩ := hJ.dep hd j d hw hj
  rw [if_neg (by unfold Region.wanted; rw [hg]; simp [yielded_undef hj (show T[d]? = some undef by rw [hv, hy v w hf])])]
  exact hK _ _ (Keep.refl _) (hF w)
theorem half (n a b : Int) (h : 0 ≤ n) (ha : n / b = a) : n.tdiv b = a := by rw [Int.tdiv_eq_ediv_of_nonneg h, ha]
theorem DraftAt.other {w : World} {B R B' R' : Int} {g s : Value} {gs ss : List Int} (h : DraftAt w (.agg #[.int .u32 B, .int .u32 R, g, s]) B R gs ss) (hb : 0 ≤ B' ∧ B' ≤ 4294967295) (hr : 0 ≤ R' ∧ R' ≤ 4294967295) : DraftAt w (.agg #[.int .u32 B', .int .u32 R', g, s]) B' R' gs ss := by
  obtain ⟨⟨g', s', e, h1, h2⟩, -, -⟩ := h
  cases e
  exact ⟨⟨g, s, rfl, h1, h2⟩, hb, hr⟩

/-- The first loop: the merged trace. -/
def findBlock (n : Nat) : Code → Option Code
  | .block m c => if m = n then some (.block m c) else findBlock n c
  | .seq a b => match findBlock n a with
    | some c => some c
    | none => findBlock n b
  | .cond _ a b => match findBlock n a with
    | some c => some c
    | none => findBlock n b
  | .loop c => findBlock n c
  | .scope c => findBlock n c
  | _ => none
noncomputable def mergesL1 : Code := ((Try.f3.body.bind (findBlock 0)).getD .skip)
set_option maxRecDepth 1000000 in
set_option maxHeartbeats 8000000 in
theorem merges_loop1 (x1 x2 M : List (Int × Int)) (n1 n2 c7 c8 : Nat) (a7 a8 : Option Addr) (s0 s1 s2 s5 s6 u16 u17 u18 u19 u20 u21 u22 u23 u24 u25 u26 u27 u28 u29 u30 u31 u32 u33 u34 u35 u36 u37 u38 u39 u40 u41 u42 u43 u44 u45 u46 u47 u48 u49 u50 u51 u52 u53 u54 u55 u56 u57 u58 u59 u60 u61 u62 u63 u64 u65 u66 u67 u68 u69 u70 u71 u72 u73 u74 u75 u76 u77 u78 u79 u80 u81 u82 u83 u84 u85 u86 u87 u88 u89 u90 u91 u92 u93 u94 u95 u96 u97 u98 u99 u100 u101 u102 u103 u104 u105 u106 u107 u108 u109 u110 u111 u112 u113 u114 u115 u116 u117 u118 u119 u120 u121 u122 u123 u124 u125 u126 u127 u128 u129 u130 u131 u132 u133 u134 u135 u136 u137 u138 u139 u140 u141 u142 u143 u144 u145 u146 u147 u148 u149 u150 u151 u152 u153 u154 u155 u156 u157 u158 u159 u160 u161 u162 u163 u164 u165 u166 u167 u168 u169 u170 u171 u172 u173 u174 u175 u176 u177 u178 u179 : Value) (W6 : World) (ln1 : n1 ≤ 30) (ln2 : n2 ≤ 30)
    (E7 : Hid (∀ j, j < n1 → ∃ b off, a7 = some ⟨b, off, none⟩ ∧ W6.cell? ⟨b, off + j * 2, none⟩ = some (.int .i64 (atL x1 j)) ∧ W6.cell? ⟨b, off + j * 2 + 1, none⟩ = some (.int .i64 (szL x1 j))))
    (E8 : Hid (∀ j, j < n2 → ∃ b off, a8 = some ⟨b, off, none⟩ ∧ W6.cell? ⟨b, off + j * 2, none⟩ = some (.int .i64 (atL x2 j)) ∧ W6.cell? ⟨b, off + j * 2 + 1, none⟩ = some (.int .i64 (szL x2 j))))
    (L1 : Hid (x1.length = n1)) (L2 : Hid (x2.length = n2)) (HM : Hid (x1.merge x2 before = M)) (J K' : Act → World → Prop) (Q' : Exit → Act → World → Prop)
    (h1J : ∀ a' w', (∃ u9 u11 u12 u16 u17 u18 u19 u20 u21 u22 u23 u24 u25 u26 u27 u28 u29 u30 u31 u32 u33 u34 u35 u36 u37 u38 u39 u40 u41 u42 u43 u44 u45 u46 u47 u48 u49 u50 u51 u52 u53 u54 u55 u56 u57 u58 u59 u60 u61 u62 u63 u64 u65 u66 u67 u68 u69 u70 u71 u72 u73 u74 u75 u76 u77 u78 u79 u80 u81 u82 u83 u84 u85 u86 u87 u88 u89 u90 u91 u92 u93 u94 u95 u96 u97 u98 u99 u100 u101 u102 u103 u104 u105 u106 u107 u108 u109 u110 u111 u112 u113 u114 u115 u116 u117 u118 u119 u120 u121 u122 u123 u124 u125 u126 u127 u128 u129 u130 u131 u132 u133 u134 u135 u136 u137 u138 u139 u140 u141 u142 u143 u144 u145 u146 u147 u148 u149 u150 u151 u152 u153 u154 u155 u156 u157 u158 u159 u160 u161 u162 u163 u164 u165 u166 u167 u168 u169 u170 u171 u172 u173 u174 u175 u176 u177 u178 u179 : Value, (Hid (RowAt w' u9 M) ∧ Hid (Keep W6 w')) ∧ a' = ⟨#[s0, s1, s2, undef, .bool false, s5, s6, .slice a7 n1 c7, .slice a8 n2 c8, u9, .slice none 0 0, u11, u12, undef, undef, undef, u16, u17, u18, u19, u20, u21, u22, u23, u24, u25, u26, u27, u28, u29, u30, u31, u32, u33, u34, u35, u36, u37, u38, u39, u40, u41, u42, u43, u44, u45, u46, u47, u48, u49, u50, u51, u52, u53, u54, u55, u56, u57, u58, u59, u60, u61, u62, u63, u64, u65, u66, u67, u68, u69, u70, u71, u72, u73, u74, u75, u76, u77, u78, u79, u80, u81, u82, u83, u84, u85, u86, u87, u88, u89, u90, u91, u92, u93, u94, u95, u96, u97, u98, u99, u100, u101, u102, u103, u104, u105, u106, u107, u108, u109, u110, u111, u112, u113, u114, u115, u116, u117, u118, u119, u120, u121, u122, u123, u124, u125, u126, u127, u128, u129, u130, u131, u132, u133, u134, u135, u136, u137, u138, u139, u140, u141, u142, u143, u144, u145, u146, u147, u148, u149, u150, u151, u152, u153, u154, u155, u156, u157, u158, u159, u160, u161, u162, u163, u164, u165, u166, u167, u168, u169, u170, u171, u172, u173, u174, u175, u176, u177, u178, u179], []⟩) → J a' w')
    (h2J : ∀ a' w', Met J a' w' → K' a' w') :
    Code.wp Try.prog mergesL1 (Exit.then K' Q') ⟨#[s0, s1, s2, undef, .bool false, s5, s6, .slice a7 n1 c7, .slice a8 n2 c8, .slice none 0 0, .slice none 0 0, .int .i64 0, .int .i64 0, undef, undef, undef, u16, u17, u18, u19, u20, u21, u22, u23, u24, u25, u26, u27, u28, u29, u30, u31, u32, u33, u34, u35, u36, u37, u38, u39, u40, u41, u42, u43, u44, u45, u46, u47, u48, u49, u50, u51, u52, u53, u54, u55, u56, u57, u58, u59, u60, u61, u62, u63, u64, u65, u66, u67, u68, u69, u70, u71, u72, u73, u74, u75, u76, u77, u78, u79, u80, u81, u82, u83, u84, u85, u86, u87, u88, u89, u90, u91, u92, u93, u94, u95, u96, u97, u98, u99, u100, u101, u102, u103, u104, u105, u106, u107, u108, u109, u110, u111, u112, u113, u114, u115, u116, u117, u118, u119, u120, u121, u122, u123, u124, u125, u126, u127, u128, u129, u130, u131, u132, u133, u134, u135, u136, u137, u138, u139, u140, u141, u142, u143, u144, u145, u146, u147, u148, u149, u150, u151, u152, u153, u154, u155, u156, u157, u158, u159, u160, u161, u162, u163, u164, u165, u166, u167, u168, u169, u170, u171, u172, u173, u174, u175, u176, u177, u178, u179], []⟩ W6 := by
  conv => arg 2; whnf
  obtain ⟨i0, hi0, hz0, hz1, hz2⟩ := info_parts infoArrival
  skip
  go_wp2
  go_loopw [9, 11, 12] (fun s9 s11 s12 wr => ∃ (i j : Nat) (out : List (Int × Int)), i ≤ n1 ∧ j ≤ n2 ∧ s11 = .int .i64 (i : Int) ∧ s12 = .int .i64 (j : Int) ∧ Hid (wr.ownsRow W6.heap.size 35 2 s9 (i + j) (cellsL out) ∧ Keep W6 wr) ∧ Hid (out ++ (x1.drop i).merge (x2.drop j) before = M)) (fun _ i j _ => (n1 - (intOf i).toNat) + (n2 - (intOf j).toNat))
  case atStart => exact ⟨0, 0, [], by omega, by omega, rfl, rfl, Lib.hid ⟨World.ownsRow_nil _ _ _ _, Keep.refl _⟩, Lib.hid HM.out⟩
  case round =>
    obtain ⟨i, j, out, hi, hj, rfl, rfl, HR, HO⟩ := hrel
    by_cases h1 : i < n1
    · obtain ⟨b7, o7, rfl, c0, c1⟩ := E7.out i h1
      have c0 := HR.out.2.some c0
      have c1 := HR.out.2.some c1
      have h1' : (i : Int) < (n1 : Int) := by omega
      obtain ⟨p, hp⟩ : ∃ p, atL x1 i = p := ⟨_, rfl⟩
      obtain ⟨q, hq⟩ : ∃ q, szL x1 i = q := ⟨_, rfl⟩
      rw [hp] at c0
      rw [hq] at c1
      by_cases h2 : j < n2
      · obtain ⟨b8, o8, rfl, e0, e1⟩ := E8.out j h2
        have e0 := HR.out.2.some e0
        have e1 := HR.out.2.some e1
        have h2' : (j : Int) < (n2 : Int) := by omega
        have h2e : ((j : Int) == (n2 : Int)) = false := by simp; omega
        obtain ⟨pp, hpp⟩ : ∃ p, atL x2 j = p := ⟨_, rfl⟩
        obtain ⟨qq, hqq⟩ : ∃ q, szL x2 j = q := ⟨_, rfl⟩
        rw [hpp] at e0
        rw [hqq] at e1
        by_cases h3 : p ≤ pp
        · have HS : Hid (out ++ ([(p, q)] ++ (x1.drop (i + 1)).merge (x2.drop j) before) = M) := Lib.hid (by rw [← HO.out, merge_x (i := i) (j := j) (by rw [L1.out]; exact h1) (Or.inr (by rw [hp, hpp]; exact h3)), hp, hq]; rfl)
          clear hp hq hpp hqq
          go_upto_region 10 with fail
          refine region_lin (W0 := wr) (listF [fun v ww => v = .int .i64 (j : Int), fun v ww => v = .slice (some ⟨b8, o8, none⟩) n2 c8, fun v ww => v = .int .i64 (n2 : Int), fun v ww => v = .bool false, fun v ww => v = .bool false, fun v ww => v = .int .i64 (i : Int), fun v ww => v = .slice (some ⟨b7, o7, none⟩) n1 c7, fun v ww => v = .int .i64 (n1 : Int), fun v ww => v = .bool true, fun v ww => v = .bool true, fun v ww => v = .slice (some ⟨b7, o7, none⟩) n1 c7, fun v ww => v = .int .i64 (i : Int), fun v ww => v = .pointer (some ⟨b7, o7 + i * 2, none⟩), fun v ww => v = .pointer (some ⟨b7, o7 + i * 2, none⟩), fun v ww => v = .int .i64 p, fun v ww => v = .slice (some ⟨b8, o8, none⟩) n2 c8, fun v ww => v = .int .i64 (j : Int), fun v ww => v = .pointer (some ⟨b8, o8 + j * 2, none⟩), fun v ww => v = .pointer (some ⟨b8, o8 + j * 2, none⟩), fun v ww => v = .int .i64 pp, fun v ww => v = .bool true, fun v ww => v = .bool true, fun v ww => v = .bool true]) (listF_stable _ ⟨fun _ _ _ _ h => h, fun _ _ _ _ h => h, fun _ _ _ _ h => h, fun _ _ _ _ h => h, fun _ _ _ _ h => h, fun _ _ _ _ h => h, fun _ _ _ _ h => h, fun _ _ _ _ h => h, fun _ _ _ _ h => h, fun _ _ _ _ h => h, fun _ _ _ _ h => h, fun _ _ _ _ h => h, fun _ _ _ _ h => h, fun _ _ _ _ h => h, fun _ _ _ _ h => h, fun _ _ _ _ h => h, fun _ _ _ _ h => h, fun _ _ _ _ h => h, fun _ _ _ _ h => h, fun _ _ _ _ h => h, fun _ _ _ _ h => h, fun _ _ _ _ h => h, fun _ _ _ _ h => h, trivial⟩) (by kernel_rfl) (by kernel_rfl) (by kernel_rfl) (by kernel_rfl) (Keep.refl _) ?done10 ?steps10
          case done10 =>
            intro T10 wz10 hJ
            obtain ⟨xv0, t0, f0⟩ := hJ.fact 0 84 (by decide) (by kernel_rfl)
            obtain rfl : xv0 = .int .i64 (j : Int) := f0
            obtain ⟨xv1, t1, f1⟩ := hJ.fact 1 85 (by decide) (by kernel_rfl)
            obtain rfl : xv1 = .slice (some ⟨b8, o8, none⟩) n2 c8 := f1
            obtain ⟨xv2, t2, f2⟩ := hJ.fact 2 86 (by decide) (by kernel_rfl)
            obtain rfl : xv2 = .int .i64 (n2 : Int) := f2
            obtain ⟨xv3, t3, f3⟩ := hJ.fact 3 87 (by decide) (by kernel_rfl)
            obtain rfl : xv3 = .bool false := f3
            obtain ⟨xv4, t4, f4⟩ := hJ.fact 4 88 (by decide) (by kernel_rfl)
            obtain rfl : xv4 = .bool false := f4
            obtain ⟨xv5, t5, f5⟩ := hJ.fact 5 89 (by decide) (by kernel_rfl)
            obtain rfl : xv5 = .int .i64 (i : Int) := f5
            obtain ⟨xv6, t6, f6⟩ := hJ.fact 6 90 (by decide) (by kernel_rfl)
            obtain rfl : xv6 = .slice (some ⟨b7, o7, none⟩) n1 c7 := f6
            obtain ⟨xv7, t7, f7⟩ := hJ.fact 7 91 (by decide) (by kernel_rfl)
            obtain rfl : xv7 = .int .i64 (n1 : Int) := f7
            obtain ⟨xv8, t8, f8⟩ := hJ.fact 8 92 (by decide) (by kernel_rfl)
            obtain rfl : xv8 = .bool true := f8
            obtain ⟨xv9, t9, f9⟩ := hJ.fact 9 93 (by decide) (by kernel_rfl)
            obtain rfl : xv9 = .bool true := f9
            obtain ⟨xv10, t10, f10⟩ := hJ.fact 10 94 (by decide) (by kernel_rfl)
            obtain rfl : xv10 = .slice (some ⟨b7, o7, none⟩) n1 c7 := f10
            obtain ⟨xv11, t11, f11⟩ := hJ.fact 11 95 (by decide) (by kernel_rfl)
            obtain rfl : xv11 = .int .i64 (i : Int) := f11
            obtain ⟨xv12, t12, f12⟩ := hJ.fact 12 96 (by decide) (by kernel_rfl)
            obtain rfl : xv12 = .pointer (some ⟨b7, o7 + i * 2, none⟩) := f12
            obtain ⟨xv13, t13, f13⟩ := hJ.fact 13 97 (by decide) (by kernel_rfl)
            obtain rfl : xv13 = .pointer (some ⟨b7, o7 + i * 2, none⟩) := f13
            obtain ⟨xv14, t14, f14⟩ := hJ.fact 14 98 (by decide) (by kernel_rfl)
            obtain rfl : xv14 = .int .i64 p := f14
            obtain ⟨xv15, t15, f15⟩ := hJ.fact 15 99 (by decide) (by kernel_rfl)
            obtain rfl : xv15 = .slice (some ⟨b8, o8, none⟩) n2 c8 := f15
            obtain ⟨xv16, t16, f16⟩ := hJ.fact 16 100 (by decide) (by kernel_rfl)
            obtain rfl : xv16 = .int .i64 (j : Int) := f16
            obtain ⟨xv17, t17, f17⟩ := hJ.fact 17 101 (by decide) (by kernel_rfl)
            obtain rfl : xv17 = .pointer (some ⟨b8, o8 + j * 2, none⟩) := f17
            obtain ⟨xv18, t18, f18⟩ := hJ.fact 18 102 (by decide) (by kernel_rfl)
            obtain rfl : xv18 = .pointer (some ⟨b8, o8 + j * 2, none⟩) := f18
            obtain ⟨xv19, t19, f19⟩ := hJ.fact 19 103 (by decide) (by kernel_rfl)
            obtain rfl : xv19 = .int .i64 pp := f19
            obtain ⟨xv20, t20, f20⟩ := hJ.fact 20 104 (by decide) (by kernel_rfl)
            obtain rfl : xv20 = .bool true := f20
            obtain ⟨xv21, t21, f21⟩ := hJ.fact 21 105 (by decide) (by kernel_rfl)
            obtain rfl : xv21 = .bool true := f21
            obtain ⟨xv22, t22, f22⟩ := hJ.fact 22 106 (by decide) (by kernel_rfl)
            obtain rfl : xv22 = .bool true := f22
            have hfr := hJ.frame [(84, .int .i64 (j : Int)), (85, .slice (some ⟨b8, o8, none⟩) n2 c8), (86, .int .i64 (n2 : Int)), (87, .bool false), (88, .bool false), (89, .int .i64 (i : Int)), (90, .slice (some ⟨b7, o7, none⟩) n1 c7), (91, .int .i64 (n1 : Int)), (92, .bool true), (93, .bool true), (94, .slice (some ⟨b7, o7, none⟩) n1 c7), (95, .int .i64 (i : Int)), (96, .pointer (some ⟨b7, o7 + i * 2, none⟩)), (97, .pointer (some ⟨b7, o7 + i * 2, none⟩)), (98, .int .i64 p), (99, .slice (some ⟨b8, o8, none⟩) n2 c8), (100, .int .i64 (j : Int)), (101, .pointer (some ⟨b8, o8 + j * 2, none⟩)), (102, .pointer (some ⟨b8, o8 + j * 2, none⟩)), (103, .int .i64 pp), (104, .bool true), (105, .bool true), (106, .bool true)] (by simp [t0, t1, t2, t3, t4, t5, t6, t7, t8, t9, t10, t11, t12, t13, t14, t15, t16, t17, t18, t19, t20, t21, t22]) (by kernel_rfl)
            have G := hJ.keep
            clear hJ t0 t1 t2 t3 t4 t5 t6 t7 t8 t9 t10 t11 t12 t13 t14 t15 t16 t17 t18 t19 t20 t21 t22
            rw [hfr]
            clear hfr T10
            simp only [List.foldl_cons, List.foldl_nil, List.setIfInBounds_toArray, List.set_cons_zero, List.set_cons_succ]
            have HG := Lib.hid G
            have c0 := G.some c0
            have c1 := G.some c1
            clear G
            go_wp2_with (at_builtin; refine wpList_append_lies _ rfl _ _ 32 rfl W6.heap.size 35 i0 (.agg #[.int .i64 0, .int .i64 0]) 2 16 Try.underlying32 hi0 hz0 hz1 hz2 rfl (by decide) _ _ _ rfl ((ownsKeep HR.out.1 HG.out).alloc _) ⟨wz10.heap.size, 0, none⟩ 1 1 [.int .i64 p, .int .i64 q] rfl rfl (cell_two_new _ _ _ _) (by intro u hu; simp at hu; rcases hu with rfl | rfl <;> rfl) (by omega) (by unfold maxLen; omega) (by omega) (by have := (HR.out.2.trans HG.out).size; simp; omega) _ rfl ?_; intro g cap w3 hown3 hgrow3 _ _)
            go_roundw
            case rel =>
              refine ⟨i + 1, j, out ++ [(p, q)], by omega, by omega, by go_num, by go_num, Lib.hid ⟨?_, ((HR.out.2.trans HG.out).alloc _).byRow hgrow3 (fun k hk => ((ownsKeep HR.out.1 HG.out).lt k hk).1)⟩, Lib.hid (by rw [List.append_assoc]; exact HS.out)⟩
              rw [cellsL_append]
              have e : i + j + 1 = (i + 1) + j := by omega
              rw [← e]
              exact hown3
            case measure => simp [intOf]; omega
          case steps10 =>
            refine LinSteps.cons (k := 0) ?_ (LinSteps.cons (k := 1) ?_ (LinSteps.cons (k := 2) ?_ (LinSteps.cons (k := 3) ?_ (LinSteps.cons (k := 4) ?_ (LinSteps.cons (k := 5) ?_ (LinSteps.cons (k := 6) ?_ (LinSteps.cons (k := 7) ?_ (LinSteps.cons (k := 8) ?_ (LinSteps.cons (k := 9) ?_ (LinSteps.cons (k := 10) ?_ (LinSteps.cons (k := 11) ?_ (LinSteps.cons (k := 12) ?_ (LinSteps.cons (k := 13) ?_ (LinSteps.cons (k := 14) ?_ (LinSteps.cons (k := 15) ?_ (LinSteps.cons (k := 16) ?_ (LinSteps.cons (k := 17) ?_ (LinSteps.cons (k := 18) ?_ (LinSteps.cons (k := 19) ?_ (LinSteps.cons (k := 20) ?_ (LinSteps.cons (k := 21) ?_ (LinSteps.cons (k := 22) ?_ (LinSteps.nil)))))))))))))))))))))))
            · -- 0
              refine LinStep.plain rfl ?_
              intro QQ bb T ww hn hJ hd K HK
              have s12 := (hJ.oldSlot 12 (by kernel_rfl))
              simp only [List.getElem?_toArray, List.getElem?_cons_zero, List.getElem?_cons_succ] at s12
              have G := hJ.keep
              clear hJ hd hn
              go_simp
              exact HK.out _ _ (Keep.refl _) rfl
            · -- 1
              refine LinStep.plain rfl ?_
              intro QQ bb T ww hn hJ hd K HK
              have s8 := (hJ.oldSlot 8 (by kernel_rfl))
              simp only [List.getElem?_toArray, List.getElem?_cons_zero, List.getElem?_cons_succ] at s8
              have G := hJ.keep
              clear hJ hd hn
              go_simp
              exact HK.out _ _ (Keep.refl _) rfl
            · -- 2
              refine LinStep.plain rfl ?_
              intro QQ bb T ww hn hJ hd K HK
              obtain ⟨xv1, t1, f1⟩ := hJ.dep hd 1 85 (by kernel_rfl) (by kernel_rfl)
              obtain rfl : xv1 = .slice (some ⟨b8, o8, none⟩) n2 c8 := f1
              have G := hJ.keep
              clear hJ hd hn
              go_simp
              exact HK.out _ _ (Keep.refl _) rfl
            · -- 3
              refine LinStep.plain rfl ?_
              intro QQ bb T ww hn hJ hd K HK
              obtain ⟨xv0, t0, f0⟩ := hJ.dep hd 0 84 (by kernel_rfl) (by kernel_rfl)
              obtain rfl : xv0 = .int .i64 (j : Int) := f0
              obtain ⟨xv2, t2, f2⟩ := hJ.dep hd 2 86 (by kernel_rfl) (by kernel_rfl)
              obtain rfl : xv2 = .int .i64 (n2 : Int) := f2
              have G := hJ.keep
              clear hJ hd hn
              go_simp
              exact HK.out _ _ (Keep.refl _) rfl
            · -- 4
              refine LinStep.plain rfl ?_
              intro QQ bb T ww hn hJ hd K HK
              obtain ⟨xv3, t3, f3⟩ := hJ.dep hd 3 87 (by kernel_rfl) (by kernel_rfl)
              obtain rfl : xv3 = .bool false := f3
              have G := hJ.keep
              clear hJ hd hn
              go_simp
              exact HK.out _ _ (Keep.refl _) rfl
            · -- 5
              refine LinStep.guarded 4 88 false rfl (by kernel_rfl) (by kernel_rfl) (fun _ _ h => h) ?_
              intro QQ bb T ww hn hJ hd K HK
              have s11 := (hJ.oldSlot 11 (by kernel_rfl))
              simp only [List.getElem?_toArray, List.getElem?_cons_zero, List.getElem?_cons_succ] at s11
              have G := hJ.keep
              clear hJ hd hn
              go_simp
              exact HK.out _ _ (Keep.refl _) rfl
            · -- 6
              refine LinStep.guarded 4 88 false rfl (by kernel_rfl) (by kernel_rfl) (fun _ _ h => h) ?_
              intro QQ bb T ww hn hJ hd K HK
              have s7 := (hJ.oldSlot 7 (by kernel_rfl))
              simp only [List.getElem?_toArray, List.getElem?_cons_zero, List.getElem?_cons_succ] at s7
              have G := hJ.keep
              clear hJ hd hn
              go_simp
              exact HK.out _ _ (Keep.refl _) rfl
            · -- 7
              refine LinStep.guarded 4 88 false rfl (by kernel_rfl) (by kernel_rfl) (fun _ _ h => h) ?_
              intro QQ bb T ww hn hJ hd K HK
              obtain ⟨xv6, t6, f6⟩ := hJ.dep hd 6 90 (by kernel_rfl) (by kernel_rfl)
              obtain rfl : xv6 = .slice (some ⟨b7, o7, none⟩) n1 c7 := f6
              have G := hJ.keep
              clear hJ hd hn
              go_simp
              exact HK.out _ _ (Keep.refl _) rfl
            · -- 8
              refine LinStep.guarded 4 88 false rfl (by kernel_rfl) (by kernel_rfl) (fun _ _ h => h) ?_
              intro QQ bb T ww hn hJ hd K HK
              obtain ⟨xv5, t5, f5⟩ := hJ.dep hd 5 89 (by kernel_rfl) (by kernel_rfl)
              obtain rfl : xv5 = .int .i64 (i : Int) := f5
              obtain ⟨xv7, t7, f7⟩ := hJ.dep hd 7 91 (by kernel_rfl) (by kernel_rfl)
              obtain rfl : xv7 = .int .i64 (n1 : Int) := f7
              have G := hJ.keep
              clear hJ hd hn
              go_simp
              exact HK.out _ _ (Keep.refl _) rfl
            · -- 9
              refine LinStep.guarded 4 88 false rfl (by kernel_rfl) (by kernel_rfl) (fun _ _ h => h) ?_
              intro QQ bb T ww hn hJ hd K HK
              obtain ⟨xv8, t8, f8⟩ := hJ.dep hd 8 92 (by kernel_rfl) (by kernel_rfl)
              obtain rfl : xv8 = .bool true := f8
              have G := hJ.keep
              clear hJ hd hn
              go_simp
              exact HK.out _ _ (Keep.refl _) rfl
            · -- 10
              refine LinStep.guarded 9 93 true rfl (by kernel_rfl) (by kernel_rfl) (fun _ _ h => h) ?_
              intro QQ bb T ww hn hJ hd K HK
              have s7 := (hJ.oldSlot 7 (by kernel_rfl))
              simp only [List.getElem?_toArray, List.getElem?_cons_zero, List.getElem?_cons_succ] at s7
              have G := hJ.keep
              clear hJ hd hn
              go_simp
              exact HK.out _ _ (Keep.refl _) rfl
            · -- 11
              refine LinStep.guarded 9 93 true rfl (by kernel_rfl) (by kernel_rfl) (fun _ _ h => h) ?_
              intro QQ bb T ww hn hJ hd K HK
              have s11 := (hJ.oldSlot 11 (by kernel_rfl))
              simp only [List.getElem?_toArray, List.getElem?_cons_zero, List.getElem?_cons_succ] at s11
              have G := hJ.keep
              clear hJ hd hn
              go_simp
              exact HK.out _ _ (Keep.refl _) rfl
            · -- 12
              refine LinStep.guarded 9 93 true rfl (by kernel_rfl) (by kernel_rfl) (fun _ _ h => h) ?_
              intro QQ bb T ww hn hJ hd K HK
              obtain ⟨xv10, t10, f10⟩ := hJ.dep hd 10 94 (by kernel_rfl) (by kernel_rfl)
              obtain rfl : xv10 = .slice (some ⟨b7, o7, none⟩) n1 c7 := f10
              obtain ⟨xv11, t11, f11⟩ := hJ.dep hd 11 95 (by kernel_rfl) (by kernel_rfl)
              obtain rfl : xv11 = .int .i64 (i : Int) := f11
              have G := hJ.keep
              clear hJ hd hn
              go_wp2
              exact HK.out _ _ (Keep.refl _) rfl
            · -- 13
              refine LinStep.guarded 9 93 true rfl (by kernel_rfl) (by kernel_rfl) (fun _ _ h => h) ?_
              intro QQ bb T ww hn hJ hd K HK
              obtain ⟨xv12, t12, f12⟩ := hJ.dep hd 12 96 (by kernel_rfl) (by kernel_rfl)
              obtain rfl : xv12 = .pointer (some ⟨b7, o7 + i * 2, none⟩) := f12
              have G := hJ.keep
              clear hJ hd hn
              go_simp
              exact HK.out _ _ (Keep.refl _) rfl
            · -- 14
              refine LinStep.guarded 9 93 true rfl (by kernel_rfl) (by kernel_rfl) (fun _ _ h => h) ?_
              intro QQ bb T ww hn hJ hd K HK
              obtain ⟨xv13, t13, f13⟩ := hJ.dep hd 13 97 (by kernel_rfl) (by kernel_rfl)
              obtain rfl : xv13 = .pointer (some ⟨b7, o7 + i * 2, none⟩) := f13
              have G := hJ.keep
              clear hJ hd hn
              have k0 := G.some c0
              go_simp
              exact HK.out _ _ (Keep.refl _) rfl
            · -- 15
              refine LinStep.guarded 9 93 true rfl (by kernel_rfl) (by kernel_rfl) (fun _ _ h => h) ?_
              intro QQ bb T ww hn hJ hd K HK
              have s8 := (hJ.oldSlot 8 (by kernel_rfl))
              simp only [List.getElem?_toArray, List.getElem?_cons_zero, List.getElem?_cons_succ] at s8
              have G := hJ.keep
              clear hJ hd hn
              go_simp
              exact HK.out _ _ (Keep.refl _) rfl
            · -- 16
              refine LinStep.guarded 9 93 true rfl (by kernel_rfl) (by kernel_rfl) (fun _ _ h => h) ?_
              intro QQ bb T ww hn hJ hd K HK
              have s12 := (hJ.oldSlot 12 (by kernel_rfl))
              simp only [List.getElem?_toArray, List.getElem?_cons_zero, List.getElem?_cons_succ] at s12
              have G := hJ.keep
              clear hJ hd hn
              go_simp
              exact HK.out _ _ (Keep.refl _) rfl
            · -- 17
              refine LinStep.guarded 9 93 true rfl (by kernel_rfl) (by kernel_rfl) (fun _ _ h => h) ?_
              intro QQ bb T ww hn hJ hd K HK
              obtain ⟨xv15, t15, f15⟩ := hJ.dep hd 15 99 (by kernel_rfl) (by kernel_rfl)
              obtain rfl : xv15 = .slice (some ⟨b8, o8, none⟩) n2 c8 := f15
              obtain ⟨xv16, t16, f16⟩ := hJ.dep hd 16 100 (by kernel_rfl) (by kernel_rfl)
              obtain rfl : xv16 = .int .i64 (j : Int) := f16
              have G := hJ.keep
              clear hJ hd hn
              go_wp2
              exact HK.out _ _ (Keep.refl _) rfl
            · -- 18
              refine LinStep.guarded 9 93 true rfl (by kernel_rfl) (by kernel_rfl) (fun _ _ h => h) ?_
              intro QQ bb T ww hn hJ hd K HK
              obtain ⟨xv17, t17, f17⟩ := hJ.dep hd 17 101 (by kernel_rfl) (by kernel_rfl)
              obtain rfl : xv17 = .pointer (some ⟨b8, o8 + j * 2, none⟩) := f17
              have G := hJ.keep
              clear hJ hd hn
              go_simp
              exact HK.out _ _ (Keep.refl _) rfl
            · -- 19
              refine LinStep.guarded 9 93 true rfl (by kernel_rfl) (by kernel_rfl) (fun _ _ h => h) ?_
              intro QQ bb T ww hn hJ hd K HK
              obtain ⟨xv18, t18, f18⟩ := hJ.dep hd 18 102 (by kernel_rfl) (by kernel_rfl)
              obtain rfl : xv18 = .pointer (some ⟨b8, o8 + j * 2, none⟩) := f18
              have G := hJ.keep
              clear hJ hd hn
              have k0 := G.some e0
              go_simp
              exact HK.out _ _ (Keep.refl _) rfl
            · -- 20
              refine LinStep.guarded 9 93 true rfl (by kernel_rfl) (by kernel_rfl) (fun _ _ h => h) ?_
              intro QQ bb T ww hn hJ hd K HK
              obtain ⟨xv14, t14, f14⟩ := hJ.dep hd 14 98 (by kernel_rfl) (by kernel_rfl)
              obtain rfl : xv14 = .int .i64 p := f14
              obtain ⟨xv19, t19, f19⟩ := hJ.dep hd 19 103 (by kernel_rfl) (by kernel_rfl)
              obtain rfl : xv19 = .int .i64 pp := f19
              have G := hJ.keep
              clear hJ hd hn
              go_simp
              exact HK.out _ _ (Keep.refl _) rfl
            · -- 21
              refine LinStep.guarded 4 88 false rfl (by kernel_rfl) (by kernel_rfl) (fun _ _ h => h) ?_
              intro QQ bb T ww hn hJ hd K HK
              obtain ⟨xv9, t9, f9⟩ := hJ.dep hd 9 93 (by kernel_rfl) (by kernel_rfl)
              obtain rfl : xv9 = .bool true := f9
              obtain ⟨xv20, t20, f20⟩ := hJ.dep hd 20 104 (by kernel_rfl) (by kernel_rfl)
              obtain rfl : xv20 = .bool true := f20
              have G := hJ.keep
              clear hJ hd hn
              go_simp
              exact HK.out _ _ (Keep.refl _) rfl
            · -- 22
              refine LinStep.plain rfl ?_
              intro QQ bb T ww hn hJ hd K HK
              obtain ⟨xv4, t4, f4⟩ := hJ.dep hd 4 88 (by kernel_rfl) (by kernel_rfl)
              obtain rfl : xv4 = .bool false := f4
              obtain ⟨xv21, t21, f21⟩ := hJ.dep hd 21 105 (by kernel_rfl) (by kernel_rfl)
              obtain rfl : xv21 = .bool true := f21
              have G := hJ.keep
              clear hJ hd hn
              go_simp
              exact HK.out _ _ (Keep.refl _) rfl
        · have h3' : pp < p := by omega
          have HS : Hid (out ++ ([(pp, qq)] ++ (x1.drop i).merge (x2.drop (j + 1)) before) = M) := Lib.hid (by rw [← HO.out, merge_y (i := i) (j := j) (by rw [L2.out]; exact h2) (Or.inr (by rw [hp, hpp]; exact h3)), hpp, hqq]; rfl)
          clear hp hq hpp hqq
          go_upto_region 10 with fail
          refine region_lin (W0 := wr) (listF [fun v ww => v = .int .i64 (j : Int), fun v ww => v = .slice (some ⟨b8, o8, none⟩) n2 c8, fun v ww => v = .int .i64 (n2 : Int), fun v ww => v = .bool false, fun v ww => v = .bool false, fun v ww => v = .int .i64 (i : Int), fun v ww => v = .slice (some ⟨b7, o7, none⟩) n1 c7, fun v ww => v = .int .i64 (n1 : Int), fun v ww => v = .bool true, fun v ww => v = .bool true, fun v ww => v = .slice (some ⟨b7, o7, none⟩) n1 c7, fun v ww => v = .int .i64 (i : Int), fun v ww => v = .pointer (some ⟨b7, o7 + i * 2, none⟩), fun v ww => v = .pointer (some ⟨b7, o7 + i * 2, none⟩), fun v ww => v = .int .i64 p, fun v ww => v = .slice (some ⟨b8, o8, none⟩) n2 c8, fun v ww => v = .int .i64 (j : Int), fun v ww => v = .pointer (some ⟨b8, o8 + j * 2, none⟩), fun v ww => v = .pointer (some ⟨b8, o8 + j * 2, none⟩), fun v ww => v = .int .i64 pp, fun v ww => v = .bool false, fun v ww => v = .bool false, fun v ww => v = .bool false]) (listF_stable _ ⟨fun _ _ _ _ h => h, fun _ _ _ _ h => h, fun _ _ _ _ h => h, fun _ _ _ _ h => h, fun _ _ _ _ h => h, fun _ _ _ _ h => h, fun _ _ _ _ h => h, fun _ _ _ _ h => h, fun _ _ _ _ h => h, fun _ _ _ _ h => h, fun _ _ _ _ h => h, fun _ _ _ _ h => h, fun _ _ _ _ h => h, fun _ _ _ _ h => h, fun _ _ _ _ h => h, fun _ _ _ _ h => h, fun _ _ _ _ h => h, fun _ _ _ _ h => h, fun _ _ _ _ h => h, fun _ _ _ _ h => h, fun _ _ _ _ h => h, fun _ _ _ _ h => h, fun _ _ _ _ h => h, trivial⟩) (by kernel_rfl) (by kernel_rfl) (by kernel_rfl) (by kernel_rfl) (Keep.refl _) ?done10 ?steps10
          case done10 =>
            intro T10 wz10 hJ
            obtain ⟨xv0, t0, f0⟩ := hJ.fact 0 84 (by decide) (by kernel_rfl)
            obtain rfl : xv0 = .int .i64 (j : Int) := f0
            obtain ⟨xv1, t1, f1⟩ := hJ.fact 1 85 (by decide) (by kernel_rfl)
            obtain rfl : xv1 = .slice (some ⟨b8, o8, none⟩) n2 c8 := f1
            obtain ⟨xv2, t2, f2⟩ := hJ.fact 2 86 (by decide) (by kernel_rfl)
            obtain rfl : xv2 = .int .i64 (n2 : Int) := f2
            obtain ⟨xv3, t3, f3⟩ := hJ.fact 3 87 (by decide) (by kernel_rfl)
            obtain rfl : xv3 = .bool false := f3
            obtain ⟨xv4, t4, f4⟩ := hJ.fact 4 88 (by decide) (by kernel_rfl)
            obtain rfl : xv4 = .bool false := f4
            obtain ⟨xv5, t5, f5⟩ := hJ.fact 5 89 (by decide) (by kernel_rfl)
            obtain rfl : xv5 = .int .i64 (i : Int) := f5
            obtain ⟨xv6, t6, f6⟩ := hJ.fact 6 90 (by decide) (by kernel_rfl)
            obtain rfl : xv6 = .slice (some ⟨b7, o7, none⟩) n1 c7 := f6
            obtain ⟨xv7, t7, f7⟩ := hJ.fact 7 91 (by decide) (by kernel_rfl)
            obtain rfl : xv7 = .int .i64 (n1 : Int) := f7
            obtain ⟨xv8, t8, f8⟩ := hJ.fact 8 92 (by decide) (by kernel_rfl)
            obtain rfl : xv8 = .bool true := f8
            obtain ⟨xv9, t9, f9⟩ := hJ.fact 9 93 (by decide) (by kernel_rfl)
            obtain rfl : xv9 = .bool true := f9
            obtain ⟨xv10, t10, f10⟩ := hJ.fact 10 94 (by decide) (by kernel_rfl)
            obtain rfl : xv10 = .slice (some ⟨b7, o7, none⟩) n1 c7 := f10
            obtain ⟨xv11, t11, f11⟩ := hJ.fact 11 95 (by decide) (by kernel_rfl)
            obtain rfl : xv11 = .int .i64 (i : Int) := f11
            obtain ⟨xv12, t12, f12⟩ := hJ.fact 12 96 (by decide) (by kernel_rfl)
            obtain rfl : xv12 = .pointer (some ⟨b7, o7 + i * 2, none⟩) := f12
            obtain ⟨xv13, t13, f13⟩ := hJ.fact 13 97 (by decide) (by kernel_rfl)
            obtain rfl : xv13 = .pointer (some ⟨b7, o7 + i * 2, none⟩) := f13
            obtain ⟨xv14, t14, f14⟩ := hJ.fact 14 98 (by decide) (by kernel_rfl)
            obtain rfl : xv14 = .int .i64 p := f14
            obtain ⟨xv15, t15, f15⟩ := hJ.fact 15 99 (by decide) (by kernel_rfl)
            obtain rfl : xv15 = .slice (some ⟨b8, o8, none⟩) n2 c8 := f15
            obtain ⟨xv16, t16, f16⟩ := hJ.fact 16 100 (by decide) (by kernel_rfl)
            obtain rfl : xv16 = .int .i64 (j : Int) := f16
            obtain ⟨xv17, t17, f17⟩ := hJ.fact 17 101 (by decide) (by kernel_rfl)
            obtain rfl : xv17 = .pointer (some ⟨b8, o8 + j * 2, none⟩) := f17
            obtain ⟨xv18, t18, f18⟩ := hJ.fact 18 102 (by decide) (by kernel_rfl)
            obtain rfl : xv18 = .pointer (some ⟨b8, o8 + j * 2, none⟩) := f18
            obtain ⟨xv19, t19, f19⟩ := hJ.fact 19 103 (by decide) (by kernel_rfl)
            obtain rfl : xv19 = .int .i64 pp := f19
            obtain ⟨xv20, t20, f20⟩ := hJ.fact 20 104 (by decide) (by kernel_rfl)
            obtain rfl : xv20 = .bool false := f20
            obtain ⟨xv21, t21, f21⟩ := hJ.fact 21 105 (by decide) (by kernel_rfl)
            obtain rfl : xv21 = .bool false := f21
            obtain ⟨xv22, t22, f22⟩ := hJ.fact 22 106 (by decide) (by kernel_rfl)
            obtain rfl : xv22 = .bool false := f22
            have hfr := hJ.frame [(84, .int .i64 (j : Int)), (85, .slice (some ⟨b8, o8, none⟩) n2 c8), (86, .int .i64 (n2 : Int)), (87, .bool false), (88, .bool false), (89, .int .i64 (i : Int)), (90, .slice (some ⟨b7, o7, none⟩) n1 c7), (91, .int .i64 (n1 : Int)), (92, .bool true), (93, .bool true), (94, .slice (some ⟨b7, o7, none⟩) n1 c7), (95, .int .i64 (i : Int)), (96, .pointer (some ⟨b7, o7 + i * 2, none⟩)), (97, .pointer (some ⟨b7, o7 + i * 2, none⟩)), (98, .int .i64 p), (99, .slice (some ⟨b8, o8, none⟩) n2 c8), (100, .int .i64 (j : Int)), (101, .pointer (some ⟨b8, o8 + j * 2, none⟩)), (102, .pointer (some ⟨b8, o8 + j * 2, none⟩)), (103, .int .i64 pp), (104, .bool false), (105, .bool false), (106, .bool false)] (by simp [t0, t1, t2, t3, t4, t5, t6, t7, t8, t9, t10, t11, t12, t13, t14, t15, t16, t17, t18, t19, t20, t21, t22]) (by kernel_rfl)
            have G := hJ.keep
            clear hJ t0 t1 t2 t3 t4 t5 t6 t7 t8 t9 t10 t11 t12 t13 t14 t15 t16 t17 t18 t19 t20 t21 t22
            rw [hfr]
            clear hfr T10
            simp only [List.foldl_cons, List.foldl_nil, List.setIfInBounds_toArray, List.set_cons_zero, List.set_cons_succ]
            have HG := Lib.hid G
            have e0 := G.some e0
            have e1 := G.some e1
            clear G
            go_wp2_with (at_builtin; refine wpList_append_lies _ rfl _ _ 32 rfl W6.heap.size 35 i0 (.agg #[.int .i64 0, .int .i64 0]) 2 16 Try.underlying32 hi0 hz0 hz1 hz2 rfl (by decide) _ _ _ rfl ((ownsKeep HR.out.1 HG.out).alloc _) ⟨wz10.heap.size, 0, none⟩ 1 1 [.int .i64 pp, .int .i64 qq] rfl rfl (cell_two_new _ _ _ _) (by intro u hu; simp at hu; rcases hu with rfl | rfl <;> rfl) (by omega) (by unfold maxLen; omega) (by omega) (by have := (HR.out.2.trans HG.out).size; simp; omega) _ rfl ?_; intro g cap w3 hown3 hgrow3 _ _)
            go_roundw
            case rel =>
              refine ⟨i, j + 1, out ++ [(pp, qq)], by omega, by omega, by go_num, by go_num, Lib.hid ⟨?_, ((HR.out.2.trans HG.out).alloc _).byRow hgrow3 (fun k hk => ((ownsKeep HR.out.1 HG.out).lt k hk).1)⟩, Lib.hid (by rw [List.append_assoc]; exact HS.out)⟩
              rw [cellsL_append]
              have e : i + j + 1 = i + (j + 1) := by omega
              rw [← e]
              exact hown3
            case measure => simp [intOf]; omega
          case steps10 =>
            refine LinSteps.cons (k := 0) ?_ (LinSteps.cons (k := 1) ?_ (LinSteps.cons (k := 2) ?_ (LinSteps.cons (k := 3) ?_ (LinSteps.cons (k := 4) ?_ (LinSteps.cons (k := 5) ?_ (LinSteps.cons (k := 6) ?_ (LinSteps.cons (k := 7) ?_ (LinSteps.cons (k := 8) ?_ (LinSteps.cons (k := 9) ?_ (LinSteps.cons (k := 10) ?_ (LinSteps.cons (k := 11) ?_ (LinSteps.cons (k := 12) ?_ (LinSteps.cons (k := 13) ?_ (LinSteps.cons (k := 14) ?_ (LinSteps.cons (k := 15) ?_ (LinSteps.cons (k := 16) ?_ (LinSteps.cons (k := 17) ?_ (LinSteps.cons (k := 18) ?_ (LinSteps.cons (k := 19) ?_ (LinSteps.cons (k := 20) ?_ (LinSteps.cons (k := 21) ?_ (LinSteps.cons (k := 22) ?_ (LinSteps.nil)))))))))))))))))))))))
            · -- 0
              refine LinStep.plain rfl ?_
              intro QQ bb T ww hn hJ hd K HK
              have s12 := (hJ.oldSlot 12 (by kernel_rfl))
              simp only [List.getElem?_toArray, List.getElem?_cons_zero, List.getElem?_cons_succ] at s12
              have G := hJ.keep
              clear hJ hd hn
              go_simp
              exact HK.out _ _ (Keep.refl _) rfl
            · -- 1
              refine LinStep.plain rfl ?_
              intro QQ bb T ww hn hJ hd K HK
              have s8 := (hJ.oldSlot 8 (by kernel_rfl))
              simp only [List.getElem?_toArray, List.getElem?_cons_zero, List.getElem?_cons_succ] at s8
              have G := hJ.keep
              clear hJ hd hn
              go_simp
              exact HK.out _ _ (Keep.refl _) rfl
            · -- 2
              refine LinStep.plain rfl ?_
              intro QQ bb T ww hn hJ hd K HK
              obtain ⟨xv1, t1, f1⟩ := hJ.dep hd 1 85 (by kernel_rfl) (by kernel_rfl)
              obtain rfl : xv1 = .slice (some ⟨b8, o8, none⟩) n2 c8 := f1
              have G := hJ.keep
              clear hJ hd hn
              go_simp
              exact HK.out _ _ (Keep.refl _) rfl
            · -- 3
              refine LinStep.plain rfl ?_
              intro QQ bb T ww hn hJ hd K HK
              obtain ⟨xv0, t0, f0⟩ := hJ.dep hd 0 84 (by kernel_rfl) (by kernel_rfl)
              obtain rfl : xv0 = .int .i64 (j : Int) := f0
              obtain ⟨xv2, t2, f2⟩ := hJ.dep hd 2 86 (by kernel_rfl) (by kernel_rfl)
              obtain rfl : xv2 = .int .i64 (n2 : Int) := f2
              have G := hJ.keep
              clear hJ hd hn
              go_simp
              exact HK.out _ _ (Keep.refl _) rfl
            · -- 4
              refine LinStep.plain rfl ?_
              intro QQ bb T ww hn hJ hd K HK
              obtain ⟨xv3, t3, f3⟩ := hJ.dep hd 3 87 (by kernel_rfl) (by kernel_rfl)
              obtain rfl : xv3 = .bool false := f3
              have G := hJ.keep
              clear hJ hd hn
              go_simp
              exact HK.out _ _ (Keep.refl _) rfl
            · -- 5
              refine LinStep.guarded 4 88 false rfl (by kernel_rfl) (by kernel_rfl) (fun _ _ h => h) ?_
              intro QQ bb T ww hn hJ hd K HK
              have s11 := (hJ.oldSlot 11 (by kernel_rfl))
              simp only [List.getElem?_toArray, List.getElem?_cons_zero, List.getElem?_cons_succ] at s11
              have G := hJ.keep
              clear hJ hd hn
              go_simp
              exact HK.out _ _ (Keep.refl _) rfl
            · -- 6
              refine LinStep.guarded 4 88 false rfl (by kernel_rfl) (by kernel_rfl) (fun _ _ h => h) ?_
              intro QQ bb T ww hn hJ hd K HK
              have s7 := (hJ.oldSlot 7 (by kernel_rfl))
              simp only [List.getElem?_toArray, List.getElem?_cons_zero, List.getElem?_cons_succ] at s7
              have G := hJ.keep
              clear hJ hd hn
              go_simp
              exact HK.out _ _ (Keep.refl _) rfl
            · -- 7
              refine LinStep.guarded 4 88 false rfl (by kernel_rfl) (by kernel_rfl) (fun _ _ h => h) ?_
              intro QQ bb T ww hn hJ hd K HK
              obtain ⟨xv6, t6, f6⟩ := hJ.dep hd 6 90 (by kernel_rfl) (by kernel_rfl)
              obtain rfl : xv6 = .slice (some ⟨b7, o7, none⟩) n1 c7 := f6
              have G := hJ.keep
              clear hJ hd hn
              go_simp
              exact HK.out _ _ (Keep.refl _) rfl
            · -- 8
              refine LinStep.guarded 4 88 false rfl (by kernel_rfl) (by kernel_rfl) (fun _ _ h => h) ?_
              intro QQ bb T ww hn hJ hd K HK
              obtain ⟨xv5, t5, f5⟩ := hJ.dep hd 5 89 (by kernel_rfl) (by kernel_rfl)
              obtain rfl : xv5 = .int .i64 (i : Int) := f5
              obtain ⟨xv7, t7, f7⟩ := hJ.dep hd 7 91 (by kernel_rfl) (by kernel_rfl)
              obtain rfl : xv7 = .int .i64 (n1 : Int) := f7
              have G := hJ.keep
              clear hJ hd hn
              go_simp
              exact HK.out _ _ (Keep.refl _) rfl
            · -- 9
              refine LinStep.guarded 4 88 false rfl (by kernel_rfl) (by kernel_rfl) (fun _ _ h => h) ?_
              intro QQ bb T ww hn hJ hd K HK
              obtain ⟨xv8, t8, f8⟩ := hJ.dep hd 8 92 (by kernel_rfl) (by kernel_rfl)
              obtain rfl : xv8 = .bool true := f8
              have G := hJ.keep
              clear hJ hd hn
              go_simp
              exact HK.out _ _ (Keep.refl _) rfl
            · -- 10
              refine LinStep.guarded 9 93 true rfl (by kernel_rfl) (by kernel_rfl) (fun _ _ h => h) ?_
              intro QQ bb T ww hn hJ hd K HK
              have s7 := (hJ.oldSlot 7 (by kernel_rfl))
              simp only [List.getElem?_toArray, List.getElem?_cons_zero, List.getElem?_cons_succ] at s7
              have G := hJ.keep
              clear hJ hd hn
              go_simp
              exact HK.out _ _ (Keep.refl _) rfl
            · -- 11
              refine LinStep.guarded 9 93 true rfl (by kernel_rfl) (by kernel_rfl) (fun _ _ h => h) ?_
              intro QQ bb T ww hn hJ hd K HK
              have s11 := (hJ.oldSlot 11 (by kernel_rfl))
              simp only [List.getElem?_toArray, List.getElem?_cons_zero, List.getElem?_cons_succ] at s11
              have G := hJ.keep
              clear hJ hd hn
              go_simp
              exact HK.out _ _ (Keep.refl _) rfl
            · -- 12
              refine LinStep.guarded 9 93 true rfl (by kernel_rfl) (by kernel_rfl) (fun _ _ h => h) ?_
              intro QQ bb T ww hn hJ hd K HK
              obtain ⟨xv10, t10, f10⟩ := hJ.dep hd 10 94 (by kernel_rfl) (by kernel_rfl)
              obtain rfl : xv10 = .slice (some ⟨b7, o7, none⟩) n1 c7 := f10
              obtain ⟨xv11, t11, f11⟩ := hJ.dep hd 11 95 (by kernel_rfl) (by kernel_rfl)
              obtain rfl : xv11 = .int .i64 (i : Int) := f11
              have G := hJ.keep
              clear hJ hd hn
              go_wp2
              exact HK.out _ _ (Keep.refl _) rfl
            · -- 13
              refine LinStep.guarded 9 93 true rfl (by kernel_rfl) (by kernel_rfl) (fun _ _ h => h) ?_
              intro QQ bb T ww hn hJ hd K HK
              obtain ⟨xv12, t12, f12⟩ := hJ.dep hd 12 96 (by kernel_rfl) (by kernel_rfl)
              obtain rfl : xv12 = .pointer (some ⟨b7, o7 + i * 2, none⟩) := f12
              have G := hJ.keep
              clear hJ hd hn
              go_simp
              exact HK.out _ _ (Keep.refl _) rfl
            · -- 14
              refine LinStep.guarded 9 93 true rfl (by kernel_rfl) (by kernel_rfl) (fun _ _ h => h) ?_
              intro QQ bb T ww hn hJ hd K HK
              obtain ⟨xv13, t13, f13⟩ := hJ.dep hd 13 97 (by kernel_rfl) (by kernel_rfl)
              obtain rfl : xv13 = .pointer (some ⟨b7, o7 + i * 2, none⟩) := f13
              have G := hJ.keep
              clear hJ hd hn
              have k0 := G.some c0
              go_simp
              exact HK.out _ _ (Keep.refl _) rfl
            · -- 15
              refine LinStep.guarded 9 93 true rfl (by kernel_rfl) (by kernel_rfl) (fun _ _ h => h) ?_
              intro QQ bb T ww hn hJ hd K HK
              have s8 := (hJ.oldSlot 8 (by kernel_rfl))
              simp only [List.getElem?_toArray, List.getElem?_cons_zero, List.getElem?_cons_succ] at s8
              have G := hJ.keep
              clear hJ hd hn
              go_simp
              exact HK.out _ _ (Keep.refl _) rfl
            · -- 16
              refine LinStep.guarded 9 93 true rfl (by kernel_rfl) (by kernel_rfl) (fun _ _ h => h) ?_
              intro QQ bb T ww hn hJ hd K HK
              have s12 := (hJ.oldSlot 12 (by kernel_rfl))
              simp only [List.getElem?_toArray, List.getElem?_cons_zero, List.getElem?_cons_succ] at s12
              have G := hJ.keep
              clear hJ hd hn
              go_simp
              exact HK.out _ _ (Keep.refl _) rfl
            · -- 17
              refine LinStep.guarded 9 93 true rfl (by kernel_rfl) (by kernel_rfl) (fun _ _ h => h) ?_
              intro QQ bb T ww hn hJ hd K HK
              obtain ⟨xv15, t15, f15⟩ := hJ.dep hd 15 99 (by kernel_rfl) (by kernel_rfl)
              obtain rfl : xv15 = .slice (some ⟨b8, o8, none⟩) n2 c8 := f15
              obtain ⟨xv16, t16, f16⟩ := hJ.dep hd 16 100 (by kernel_rfl) (by kernel_rfl)
              obtain rfl : xv16 = .int .i64 (j : Int) := f16
              have G := hJ.keep
              clear hJ hd hn
              go_wp2
              exact HK.out _ _ (Keep.refl _) rfl
            · -- 18
              refine LinStep.guarded 9 93 true rfl (by kernel_rfl) (by kernel_rfl) (fun _ _ h => h) ?_
              intro QQ bb T ww hn hJ hd K HK
              obtain ⟨xv17, t17, f17⟩ := hJ.dep hd 17 101 (by kernel_rfl) (by kernel_rfl)
              obtain rfl : xv17 = .pointer (some ⟨b8, o8 + j * 2, none⟩) := f17
              have G := hJ.keep
              clear hJ hd hn
              go_simp
              exact HK.out _ _ (Keep.refl _) rfl
            · -- 19
              refine LinStep.guarded 9 93 true rfl (by kernel_rfl) (by kernel_rfl) (fun _ _ h => h) ?_
              intro QQ bb T ww hn hJ hd K HK
              obtain ⟨xv18, t18, f18⟩ := hJ.dep hd 18 102 (by kernel_rfl) (by kernel_rfl)
              obtain rfl : xv18 = .pointer (some ⟨b8, o8 + j * 2, none⟩) := f18
              have G := hJ.keep
              clear hJ hd hn
              have k0 := G.some e0
              go_simp
              exact HK.out _ _ (Keep.refl _) rfl
            · -- 20
              refine LinStep.guarded 9 93 true rfl (by kernel_rfl) (by kernel_rfl) (fun _ _ h => h) ?_
              intro QQ bb T ww hn hJ hd K HK
              obtain ⟨xv14, t14, f14⟩ := hJ.dep hd 14 98 (by kernel_rfl) (by kernel_rfl)
              obtain rfl : xv14 = .int .i64 p := f14
              obtain ⟨xv19, t19, f19⟩ := hJ.dep hd 19 103 (by kernel_rfl) (by kernel_rfl)
              obtain rfl : xv19 = .int .i64 pp := f19
              have G := hJ.keep
              clear hJ hd hn
              go_simp
              exact HK.out _ _ (Keep.refl _) rfl
            · -- 21
              refine LinStep.guarded 4 88 false rfl (by kernel_rfl) (by kernel_rfl) (fun _ _ h => h) ?_
              intro QQ bb T ww hn hJ hd K HK
              obtain ⟨xv9, t9, f9⟩ := hJ.dep hd 9 93 (by kernel_rfl) (by kernel_rfl)
              obtain rfl : xv9 = .bool true := f9
              obtain ⟨xv20, t20, f20⟩ := hJ.dep hd 20 104 (by kernel_rfl) (by kernel_rfl)
              obtain rfl : xv20 = .bool false := f20
              have G := hJ.keep
              clear hJ hd hn
              go_simp
              exact HK.out _ _ (Keep.refl _) rfl
            · -- 22
              refine LinStep.plain rfl ?_
              intro QQ bb T ww hn hJ hd K HK
              obtain ⟨xv4, t4, f4⟩ := hJ.dep hd 4 88 (by kernel_rfl) (by kernel_rfl)
              obtain rfl : xv4 = .bool false := f4
              obtain ⟨xv21, t21, f21⟩ := hJ.dep hd 21 105 (by kernel_rfl) (by kernel_rfl)
              obtain rfl : xv21 = .bool false := f21
              have G := hJ.keep
              clear hJ hd hn
              go_simp
              exact HK.out _ _ (Keep.refl _) rfl
      · obtain rfl : n2 = j := by omega
        have h2e : ((n2 : Int) == (n2 : Int)) = true := by simp
        have HS : Hid (out ++ ([(p, q)] ++ (x1.drop (i + 1)).merge (x2.drop n2) before) = M) := Lib.hid (by rw [← HO.out, merge_x (i := i) (j := n2) (by rw [L1.out]; exact h1) (Or.inl (by rw [L2.out]; omega)), hp, hq]; rfl)
        clear hp hq
        go_upto_region 10 with fail
        refine region_lin (W0 := wr) (listF [fun v ww => v = .int .i64 (n2 : Int), fun v ww => v = .slice a8 n2 c8, fun v ww => v = .int .i64 (n2 : Int), fun v ww => v = .bool true, fun v ww => v = .bool true, fun v ww => v = undef, fun v ww => v = undef, fun v ww => v = undef, fun v ww => v = undef, fun v ww => v = undef, fun v ww => v = undef, fun v ww => v = undef, fun v ww => v = undef, fun v ww => v = undef, fun v ww => v = undef, fun v ww => v = undef, fun v ww => v = undef, fun v ww => v = undef, fun v ww => v = undef, fun v ww => v = undef, fun v ww => v = undef, fun v ww => v = undef, fun v ww => v = .bool true]) (listF_stable _ ⟨fun _ _ _ _ h => h, fun _ _ _ _ h => h, fun _ _ _ _ h => h, fun _ _ _ _ h => h, fun _ _ _ _ h => h, fun _ _ _ _ h => h, fun _ _ _ _ h => h, fun _ _ _ _ h => h, fun _ _ _ _ h => h, fun _ _ _ _ h => h, fun _ _ _ _ h => h, fun _ _ _ _ h => h, fun _ _ _ _ h => h, fun _ _ _ _ h => h, fun _ _ _ _ h => h, fun _ _ _ _ h => h, fun _ _ _ _ h => h, fun _ _ _ _ h => h, fun _ _ _ _ h => h, fun _ _ _ _ h => h, fun _ _ _ _ h => h, fun _ _ _ _ h => h, fun _ _ _ _ h => h, trivial⟩) (by kernel_rfl) (by kernel_rfl) (by kernel_rfl) (by kernel_rfl) (Keep.refl _) ?done10 ?steps10
        case done10 =>
          intro T10 wz10 hJ
          obtain ⟨xv0, t0, f0⟩ := hJ.fact 0 84 (by decide) (by kernel_rfl)
          obtain rfl : xv0 = .int .i64 (n2 : Int) := f0
          obtain ⟨xv1, t1, f1⟩ := hJ.fact 1 85 (by decide) (by kernel_rfl)
          obtain rfl : xv1 = .slice a8 n2 c8 := f1
          obtain ⟨xv2, t2, f2⟩ := hJ.fact 2 86 (by decide) (by kernel_rfl)
          obtain rfl : xv2 = .int .i64 (n2 : Int) := f2
          obtain ⟨xv3, t3, f3⟩ := hJ.fact 3 87 (by decide) (by kernel_rfl)
          obtain rfl : xv3 = .bool true := f3
          obtain ⟨xv4, t4, f4⟩ := hJ.fact 4 88 (by decide) (by kernel_rfl)
          obtain rfl : xv4 = .bool true := f4
          obtain ⟨xv5, t5, f5⟩ := hJ.fact 5 89 (by decide) (by kernel_rfl)
          obtain rfl : undef = xv5 := f5.symm
          obtain ⟨xv6, t6, f6⟩ := hJ.fact 6 90 (by decide) (by kernel_rfl)
          obtain rfl : undef = xv6 := f6.symm
          obtain ⟨xv7, t7, f7⟩ := hJ.fact 7 91 (by decide) (by kernel_rfl)
          obtain rfl : undef = xv7 := f7.symm
          obtain ⟨xv8, t8, f8⟩ := hJ.fact 8 92 (by decide) (by kernel_rfl)
          obtain rfl : undef = xv8 := f8.symm
          obtain ⟨xv9, t9, f9⟩ := hJ.fact 9 93 (by decide) (by kernel_rfl)
          obtain rfl : undef = xv9 := f9.symm
          obtain ⟨xv10, t10, f10⟩ := hJ.fact 10 94 (by decide) (by kernel_rfl)
          obtain rfl : undef = xv10 := f10.symm
          obtain ⟨xv11, t11, f11⟩ := hJ.fact 11 95 (by decide) (by kernel_rfl)
          obtain rfl : undef = xv11 := f11.symm
          obtain ⟨xv12, t12, f12⟩ := hJ.fact 12 96 (by decide) (by kernel_rfl)
          obtain rfl : undef = xv12 := f12.symm
          obtain ⟨xv13, t13, f13⟩ := hJ.fact 13 97 (by decide) (by kernel_rfl)
          obtain rfl : undef = xv13 := f13.symm
          obtain ⟨xv14, t14, f14⟩ := hJ.fact 14 98 (by decide) (by kernel_rfl)
          obtain rfl : undef = xv14 := f14.symm
          obtain ⟨xv15, t15, f15⟩ := hJ.fact 15 99 (by decide) (by kernel_rfl)
          obtain rfl : undef = xv15 := f15.symm
          obtain ⟨xv16, t16, f16⟩ := hJ.fact 16 100 (by decide) (by kernel_rfl)
          obtain rfl : undef = xv16 := f16.symm
          obtain ⟨xv17, t17, f17⟩ := hJ.fact 17 101 (by decide) (by kernel_rfl)
          obtain rfl : undef = xv17 := f17.symm
          obtain ⟨xv18, t18, f18⟩ := hJ.fact 18 102 (by decide) (by kernel_rfl)
          obtain rfl : undef = xv18 := f18.symm
          obtain ⟨xv19, t19, f19⟩ := hJ.fact 19 103 (by decide) (by kernel_rfl)
          obtain rfl : undef = xv19 := f19.symm
          obtain ⟨xv20, t20, f20⟩ := hJ.fact 20 104 (by decide) (by kernel_rfl)
          obtain rfl : undef = xv20 := f20.symm
          obtain ⟨xv21, t21, f21⟩ := hJ.fact 21 105 (by decide) (by kernel_rfl)
          obtain rfl : undef = xv21 := f21.symm
          obtain ⟨xv22, t22, f22⟩ := hJ.fact 22 106 (by decide) (by kernel_rfl)
          obtain rfl : xv22 = .bool true := f22
          have hfr := hJ.frame [(84, .int .i64 (n2 : Int)), (85, .slice a8 n2 c8), (86, .int .i64 (n2 : Int)), (87, .bool true), (88, .bool true), (89, undef), (90, undef), (91, undef), (92, undef), (93, undef), (94, undef), (95, undef), (96, undef), (97, undef), (98, undef), (99, undef), (100, undef), (101, undef), (102, undef), (103, undef), (104, undef), (105, undef), (106, .bool true)] (by simp [t0, t1, t2, t3, t4, t5, t6, t7, t8, t9, t10, t11, t12, t13, t14, t15, t16, t17, t18, t19, t20, t21, t22]) (by kernel_rfl)
          have G := hJ.keep
          clear hJ t0 t1 t2 t3 t4 t5 t6 t7 t8 t9 t10 t11 t12 t13 t14 t15 t16 t17 t18 t19 t20 t21 t22
          rw [hfr]
          clear hfr T10
          simp only [List.foldl_cons, List.foldl_nil, List.setIfInBounds_toArray, List.set_cons_zero, List.set_cons_succ]
          have HG := Lib.hid G
          have c0 := G.some c0
          have c1 := G.some c1
          clear G
          go_wp2_with (at_builtin; refine wpList_append_lies _ rfl _ _ 32 rfl W6.heap.size 35 i0 (.agg #[.int .i64 0, .int .i64 0]) 2 16 Try.underlying32 hi0 hz0 hz1 hz2 rfl (by decide) _ _ _ rfl ((ownsKeep HR.out.1 HG.out).alloc _) ⟨wz10.heap.size, 0, none⟩ 1 1 [.int .i64 p, .int .i64 q] rfl rfl (cell_two_new _ _ _ _) (by intro u hu; simp at hu; rcases hu with rfl | rfl <;> rfl) (by omega) (by unfold maxLen; omega) (by omega) (by have := (HR.out.2.trans HG.out).size; simp; omega) _ rfl ?_; intro g cap w3 hown3 hgrow3 _ _)
          go_roundw
          case rel =>
            refine ⟨i + 1, n2, out ++ [(p, q)], by omega, by omega, by go_num, by go_num, Lib.hid ⟨?_, ((HR.out.2.trans HG.out).alloc _).byRow hgrow3 (fun k hk => ((ownsKeep HR.out.1 HG.out).lt k hk).1)⟩, Lib.hid (by rw [List.append_assoc]; exact HS.out)⟩
            rw [cellsL_append]
            have e : i + n2 + 1 = (i + 1) + n2 := by omega
            rw [← e]
            exact hown3
          case measure => simp [intOf]; omega
        case steps10 =>
          refine LinSteps.cons (k := 0) ?_ (LinSteps.cons (k := 1) ?_ (LinSteps.cons (k := 2) ?_ (LinSteps.cons (k := 3) ?_ (LinSteps.cons (k := 4) ?_ (LinSteps.cons (k := 5) ?_ (LinSteps.cons (k := 6) ?_ (LinSteps.cons (k := 7) ?_ (LinSteps.cons (k := 8) ?_ (LinSteps.cons (k := 9) ?_ (LinSteps.cons (k := 10) ?_ (LinSteps.cons (k := 11) ?_ (LinSteps.cons (k := 12) ?_ (LinSteps.cons (k := 13) ?_ (LinSteps.cons (k := 14) ?_ (LinSteps.cons (k := 15) ?_ (LinSteps.cons (k := 16) ?_ (LinSteps.cons (k := 17) ?_ (LinSteps.cons (k := 18) ?_ (LinSteps.cons (k := 19) ?_ (LinSteps.cons (k := 20) ?_ (LinSteps.cons (k := 21) ?_ (LinSteps.cons (k := 22) ?_ (LinSteps.nil)))))))))))))))))))))))
          · -- 0
            refine LinStep.plain rfl ?_
            intro QQ bb T ww hn hJ hd K HK
            have s12 := (hJ.oldSlot 12 (by kernel_rfl))
            simp only [List.getElem?_toArray, List.getElem?_cons_zero, List.getElem?_cons_succ] at s12
            have G := hJ.keep
            clear hJ hd hn
            go_simp
            exact HK.out _ _ (Keep.refl _) rfl
          · -- 1
            refine LinStep.plain rfl ?_
            intro QQ bb T ww hn hJ hd K HK
            have s8 := (hJ.oldSlot 8 (by kernel_rfl))
            simp only [List.getElem?_toArray, List.getElem?_cons_zero, List.getElem?_cons_succ] at s8
            have G := hJ.keep
            clear hJ hd hn
            go_simp
            exact HK.out _ _ (Keep.refl _) rfl
          · -- 2
            refine LinStep.plain rfl ?_
            intro QQ bb T ww hn hJ hd K HK
            obtain ⟨xv1, t1, f1⟩ := hJ.dep hd 1 85 (by kernel_rfl) (by kernel_rfl)
            obtain rfl : xv1 = .slice a8 n2 c8 := f1
            have G := hJ.keep
            clear hJ hd hn
            go_simp
            exact HK.out _ _ (Keep.refl _) rfl
          · -- 3
            refine LinStep.plain rfl ?_
            intro QQ bb T ww hn hJ hd K HK
            obtain ⟨xv0, t0, f0⟩ := hJ.dep hd 0 84 (by kernel_rfl) (by kernel_rfl)
            obtain rfl : xv0 = .int .i64 (n2 : Int) := f0
            obtain ⟨xv2, t2, f2⟩ := hJ.dep hd 2 86 (by kernel_rfl) (by kernel_rfl)
            obtain rfl : xv2 = .int .i64 (n2 : Int) := f2
            have G := hJ.keep
            clear hJ hd hn
            go_simp
            exact HK.out _ _ (Keep.refl _) rfl
          · -- 4
            refine LinStep.plain rfl ?_
            intro QQ bb T ww hn hJ hd K HK
            obtain ⟨xv3, t3, f3⟩ := hJ.dep hd 3 87 (by kernel_rfl) (by kernel_rfl)
            obtain rfl : xv3 = .bool true := f3
            have G := hJ.keep
            clear hJ hd hn
            go_simp
            exact HK.out _ _ (Keep.refl _) rfl
          · -- 5
            exact LinStep.skipped 4 88 false rfl (by kernel_rfl) (by kernel_rfl) (fun _ _ h => h) (fun _ => rfl)
          · -- 6
            exact LinStep.skipped 4 88 false rfl (by kernel_rfl) (by kernel_rfl) (fun _ _ h => h) (fun _ => rfl)
          · -- 7
            exact LinStep.skipped 4 88 false rfl (by kernel_rfl) (by kernel_rfl) (fun _ _ h => h) (fun _ => rfl)
          · -- 8
            exact LinStep.skipped 4 88 false rfl (by kernel_rfl) (by kernel_rfl) (fun _ _ h => h) (fun _ => rfl)
          · -- 9
            exact LinStep.skipped 4 88 false rfl (by kernel_rfl) (by kernel_rfl) (fun _ _ h => h) (fun _ => rfl)
          · -- 10
            exact LinStep.unmet 9 93 true rfl (by kernel_rfl) (by kernel_rfl) (fun _ _ h => h) (fun _ => rfl)
          · -- 11
            exact LinStep.unmet 9 93 true rfl (by kernel_rfl) (by kernel_rfl) (fun _ _ h => h) (fun _ => rfl)
          · -- 12
            exact LinStep.unmet 9 93 true rfl (by kernel_rfl) (by kernel_rfl) (fun _ _ h => h) (fun _ => rfl)
          · -- 13
            exact LinStep.unmet 9 93 true rfl (by kernel_rfl) (by kernel_rfl) (fun _ _ h => h) (fun _ => rfl)
          · -- 14
            exact LinStep.unmet 9 93 true rfl (by kernel_rfl) (by kernel_rfl) (fun _ _ h => h) (fun _ => rfl)
          · -- 15
            exact LinStep.unmet 9 93 true rfl (by kernel_rfl) (by kernel_rfl) (fun _ _ h => h) (fun _ => rfl)
          · -- 16
            exact LinStep.unmet 9 93 true rfl (by kernel_rfl) (by kernel_rfl) (fun _ _ h => h) (fun _ => rfl)
          · -- 17
            exact LinStep.unmet 9 93 true rfl (by kernel_rfl) (by kernel_rfl) (fun _ _ h => h) (fun _ => rfl)
          · -- 18
            exact LinStep.unmet 9 93 true rfl (by kernel_rfl) (by kernel_rfl) (fun _ _ h => h) (fun _ => rfl)
          · -- 19
            exact LinStep.unmet 9 93 true rfl (by kernel_rfl) (by kernel_rfl) (fun _ _ h => h) (fun _ => rfl)
          · -- 20
            exact LinStep.unmet 9 93 true rfl (by kernel_rfl) (by kernel_rfl) (fun _ _ h => h) (fun _ => rfl)
          · -- 21
            exact LinStep.skipped 4 88 false rfl (by kernel_rfl) (by kernel_rfl) (fun _ _ h => h) (fun _ => rfl)
          · -- 22
            refine LinStep.plain rfl ?_
            intro QQ bb T ww hn hJ hd K HK
            obtain ⟨xv4, t4, f4⟩ := hJ.dep hd 4 88 (by kernel_rfl) (by kernel_rfl)
            obtain rfl : xv4 = .bool true := f4
            obtain ⟨xv21, t21, f21⟩ := hJ.dep hd 21 105 (by kernel_rfl) (by kernel_rfl)
            obtain rfl : undef = xv21 := f21.symm
            have G := hJ.keep
            clear hJ hd hn
            go_simp
            exact HK.out _ _ (Keep.refl _) rfl
    · obtain rfl : n1 = i := by omega
      have h1' : ¬ (n1 : Int) < (n1 : Int) := by omega
      by_cases h2 : j < n2
      · obtain ⟨b8, o8, rfl, e0, e1⟩ := E8.out j h2
        have e0 := HR.out.2.some e0
        have e1 := HR.out.2.some e1
        have h2' : (j : Int) < (n2 : Int) := by omega
        have h2e : ((j : Int) == (n2 : Int)) = false := by simp; omega
        obtain ⟨pp, hpp⟩ : ∃ p, atL x2 j = p := ⟨_, rfl⟩
        obtain ⟨qq, hqq⟩ : ∃ q, szL x2 j = q := ⟨_, rfl⟩
        rw [hpp] at e0
        rw [hqq] at e1
        have HS : Hid (out ++ ([(pp, qq)] ++ (x1.drop n1).merge (x2.drop (j + 1)) before) = M) := Lib.hid (by rw [← HO.out, merge_y (i := n1) (j := j) (by rw [L2.out]; exact h2) (Or.inl (by rw [L1.out]; omega)), hpp, hqq]; rfl)
        clear hpp hqq
        go_upto_region 10 with fail
        refine region_lin (W0 := wr) (listF [fun v ww => v = .int .i64 (j : Int), fun v ww => v = .slice (some ⟨b8, o8, none⟩) n2 c8, fun v ww => v = .int .i64 (n2 : Int), fun v ww => v = .bool false, fun v ww => v = .bool false, fun v ww => v = .int .i64 (n1 : Int), fun v ww => v = .slice a7 n1 c7, fun v ww => v = .int .i64 (n1 : Int), fun v ww => v = .bool false, fun v ww => v = .bool false, fun v ww => v = undef, fun v ww => v = undef, fun v ww => v = undef, fun v ww => v = undef, fun v ww => v = undef, fun v ww => v = undef, fun v ww => v = undef, fun v ww => v = undef, fun v ww => v = undef, fun v ww => v = undef, fun v ww => v = undef, fun v ww => v = .bool false, fun v ww => v = .bool false]) (listF_stable _ ⟨fun _ _ _ _ h => h, fun _ _ _ _ h => h, fun _ _ _ _ h => h, fun _ _ _ _ h => h, fun _ _ _ _ h => h, fun _ _ _ _ h => h, fun _ _ _ _ h => h, fun _ _ _ _ h => h, fun _ _ _ _ h => h, fun _ _ _ _ h => h, fun _ _ _ _ h => h, fun _ _ _ _ h => h, fun _ _ _ _ h => h, fun _ _ _ _ h => h, fun _ _ _ _ h => h, fun _ _ _ _ h => h, fun _ _ _ _ h => h, fun _ _ _ _ h => h, fun _ _ _ _ h => h, fun _ _ _ _ h => h, fun _ _ _ _ h => h, fun _ _ _ _ h => h, fun _ _ _ _ h => h, trivial⟩) (by kernel_rfl) (by kernel_rfl) (by kernel_rfl) (by kernel_rfl) (Keep.refl _) ?done10 ?steps10
        case done10 =>
          intro T10 wz10 hJ
          obtain ⟨xv0, t0, f0⟩ := hJ.fact 0 84 (by decide) (by kernel_rfl)
          obtain rfl : xv0 = .int .i64 (j : Int) := f0
          obtain ⟨xv1, t1, f1⟩ := hJ.fact 1 85 (by decide) (by kernel_rfl)
          obtain rfl : xv1 = .slice (some ⟨b8, o8, none⟩) n2 c8 := f1
          obtain ⟨xv2, t2, f2⟩ := hJ.fact 2 86 (by decide) (by kernel_rfl)
          obtain rfl : xv2 = .int .i64 (n2 : Int) := f2
          obtain ⟨xv3, t3, f3⟩ := hJ.fact 3 87 (by decide) (by kernel_rfl)
          obtain rfl : xv3 = .bool false := f3
          obtain ⟨xv4, t4, f4⟩ := hJ.fact 4 88 (by decide) (by kernel_rfl)
          obtain rfl : xv4 = .bool false := f4
          obtain ⟨xv5, t5, f5⟩ := hJ.fact 5 89 (by decide) (by kernel_rfl)
          obtain rfl : xv5 = .int .i64 (n1 : Int) := f5
          obtain ⟨xv6, t6, f6⟩ := hJ.fact 6 90 (by decide) (by kernel_rfl)
          obtain rfl : xv6 = .slice a7 n1 c7 := f6
          obtain ⟨xv7, t7, f7⟩ := hJ.fact 7 91 (by decide) (by kernel_rfl)
          obtain rfl : xv7 = .int .i64 (n1 : Int) := f7
          obtain ⟨xv8, t8, f8⟩ := hJ.fact 8 92 (by decide) (by kernel_rfl)
          obtain rfl : xv8 = .bool false := f8
          obtain ⟨xv9, t9, f9⟩ := hJ.fact 9 93 (by decide) (by kernel_rfl)
          obtain rfl : xv9 = .bool false := f9
          obtain ⟨xv10, t10, f10⟩ := hJ.fact 10 94 (by decide) (by kernel_rfl)
          obtain rfl : undef = xv10 := f10.symm
          obtain ⟨xv11, t11, f11⟩ := hJ.fact 11 95 (by decide) (by kernel_rfl)
          obtain rfl : undef = xv11 := f11.symm
          obtain ⟨xv12, t12, f12⟩ := hJ.fact 12 96 (by decide) (by kernel_rfl)
          obtain rfl : undef = xv12 := f12.symm
          obtain ⟨xv13, t13, f13⟩ := hJ.fact 13 97 (by decide) (by kernel_rfl)
          obtain rfl : undef = xv13 := f13.symm
          obtain ⟨xv14, t14, f14⟩ := hJ.fact 14 98 (by decide) (by kernel_rfl)
          obtain rfl : undef = xv14 := f14.symm
          obtain ⟨xv15, t15, f15⟩ := hJ.fact 15 99 (by decide) (by kernel_rfl)
          obtain rfl : undef = xv15 := f15.symm
          obtain ⟨xv16, t16, f16⟩ := hJ.fact 16 100 (by decide) (by kernel_rfl)
          obtain rfl : undef = xv16 := f16.symm
          obtain ⟨xv17, t17, f17⟩ := hJ.fact 17 101 (by decide) (by kernel_rfl)
          obtain rfl : undef = xv17 := f17.symm
          obtain ⟨xv18, t18, f18⟩ := hJ.fact 18 102 (by decide) (by kernel_rfl)
          obtain rfl : undef = xv18 := f18.symm
          obtain ⟨xv19, t19, f19⟩ := hJ.fact 19 103 (by decide) (by kernel_rfl)
          obtain rfl : undef = xv19 := f19.symm
          obtain ⟨xv20, t20, f20⟩ := hJ.fact 20 104 (by decide) (by kernel_rfl)
          obtain rfl : undef = xv20 := f20.symm
          obtain ⟨xv21, t21, f21⟩ := hJ.fact 21 105 (by decide) (by kernel_rfl)
          obtain rfl : xv21 = .bool false := f21
          obtain ⟨xv22, t22, f22⟩ := hJ.fact 22 106 (by decide) (by kernel_rfl)
          obtain rfl : xv22 = .bool false := f22
          have hfr := hJ.frame [(84, .int .i64 (j : Int)), (85, .slice (some ⟨b8, o8, none⟩) n2 c8), (86, .int .i64 (n2 : Int)), (87, .bool false), (88, .bool false), (89, .int .i64 (n1 : Int)), (90, .slice a7 n1 c7), (91, .int .i64 (n1 : Int)), (92, .bool false), (93, .bool false), (94, undef), (95, undef), (96, undef), (97, undef), (98, undef), (99, undef), (100, undef), (101, undef), (102, undef), (103, undef), (104, undef), (105, .bool false), (106, .bool false)] (by simp [t0, t1, t2, t3, t4, t5, t6, t7, t8, t9, t10, t11, t12, t13, t14, t15, t16, t17, t18, t19, t20, t21, t22]) (by kernel_rfl)
          have G := hJ.keep
          clear hJ t0 t1 t2 t3 t4 t5 t6 t7 t8 t9 t10 t11 t12 t13 t14 t15 t16 t17 t18 t19 t20 t21 t22
          rw [hfr]
          clear hfr T10
          simp only [List.foldl_cons, List.foldl_nil, List.setIfInBounds_toArray, List.set_cons_zero, List.set_cons_succ]
          have HG := Lib.hid G
          have e0 := G.some e0
          have e1 := G.some e1
          clear G
          go_wp2_with (at_builtin; refine wpList_append_lies _ rfl _ _ 32 rfl W6.heap.size 35 i0 (.agg #[.int .i64 0, .int .i64 0]) 2 16 Try.underlying32 hi0 hz0 hz1 hz2 rfl (by decide) _ _ _ rfl ((ownsKeep HR.out.1 HG.out).alloc _) ⟨wz10.heap.size, 0, none⟩ 1 1 [.int .i64 pp, .int .i64 qq] rfl rfl (cell_two_new _ _ _ _) (by intro u hu; simp at hu; rcases hu with rfl | rfl <;> rfl) (by omega) (by unfold maxLen; omega) (by omega) (by have := (HR.out.2.trans HG.out).size; simp; omega) _ rfl ?_; intro g cap w3 hown3 hgrow3 _ _)
          go_roundw
          case rel =>
            refine ⟨n1, j + 1, out ++ [(pp, qq)], by omega, by omega, by go_num, by go_num, Lib.hid ⟨?_, ((HR.out.2.trans HG.out).alloc _).byRow hgrow3 (fun k hk => ((ownsKeep HR.out.1 HG.out).lt k hk).1)⟩, Lib.hid (by rw [List.append_assoc]; exact HS.out)⟩
            rw [cellsL_append]
            have e : n1 + j + 1 = n1 + (j + 1) := by omega
            rw [← e]
            exact hown3
          case measure => simp [intOf]; omega
        case steps10 =>
          refine LinSteps.cons (k := 0) ?_ (LinSteps.cons (k := 1) ?_ (LinSteps.cons (k := 2) ?_ (LinSteps.cons (k := 3) ?_ (LinSteps.cons (k := 4) ?_ (LinSteps.cons (k := 5) ?_ (LinSteps.cons (k := 6) ?_ (LinSteps.cons (k := 7) ?_ (LinSteps.cons (k := 8) ?_ (LinSteps.cons (k := 9) ?_ (LinSteps.cons (k := 10) ?_ (LinSteps.cons (k := 11) ?_ (LinSteps.cons (k := 12) ?_ (LinSteps.cons (k := 13) ?_ (LinSteps.cons (k := 14) ?_ (LinSteps.cons (k := 15) ?_ (LinSteps.cons (k := 16) ?_ (LinSteps.cons (k := 17) ?_ (LinSteps.cons (k := 18) ?_ (LinSteps.cons (k := 19) ?_ (LinSteps.cons (k := 20) ?_ (LinSteps.cons (k := 21) ?_ (LinSteps.cons (k := 22) ?_ (LinSteps.nil)))))))))))))))))))))))
          · -- 0
            refine LinStep.plain rfl ?_
            intro QQ bb T ww hn hJ hd K HK
            have s12 := (hJ.oldSlot 12 (by kernel_rfl))
            simp only [List.getElem?_toArray, List.getElem?_cons_zero, List.getElem?_cons_succ] at s12
            have G := hJ.keep
            clear hJ hd hn
            go_simp
            exact HK.out _ _ (Keep.refl _) rfl
          · -- 1
            refine LinStep.plain rfl ?_
            intro QQ bb T ww hn hJ hd K HK
            have s8 := (hJ.oldSlot 8 (by kernel_rfl))
            simp only [List.getElem?_toArray, List.getElem?_cons_zero, List.getElem?_cons_succ] at s8
            have G := hJ.keep
            clear hJ hd hn
            go_simp
            exact HK.out _ _ (Keep.refl _) rfl
          · -- 2
            refine LinStep.plain rfl ?_
            intro QQ bb T ww hn hJ hd K HK
            obtain ⟨xv1, t1, f1⟩ := hJ.dep hd 1 85 (by kernel_rfl) (by kernel_rfl)
            obtain rfl : xv1 = .slice (some ⟨b8, o8, none⟩) n2 c8 := f1
            have G := hJ.keep
            clear hJ hd hn
            go_simp
            exact HK.out _ _ (Keep.refl _) rfl
          · -- 3
            refine LinStep.plain rfl ?_
            intro QQ bb T ww hn hJ hd K HK
            obtain ⟨xv0, t0, f0⟩ := hJ.dep hd 0 84 (by kernel_rfl) (by kernel_rfl)
            obtain rfl : xv0 = .int .i64 (j : Int) := f0
            obtain ⟨xv2, t2, f2⟩ := hJ.dep hd 2 86 (by kernel_rfl) (by kernel_rfl)
            obtain rfl : xv2 = .int .i64 (n2 : Int) := f2
            have G := hJ.keep
            clear hJ hd hn
            go_simp
            exact HK.out _ _ (Keep.refl _) rfl
          · -- 4
            refine LinStep.plain rfl ?_
            intro QQ bb T ww hn hJ hd K HK
            obtain ⟨xv3, t3, f3⟩ := hJ.dep hd 3 87 (by kernel_rfl) (by kernel_rfl)
            obtain rfl : xv3 = .bool false := f3
            have G := hJ.keep
            clear hJ hd hn
            go_simp
            exact HK.out _ _ (Keep.refl _) rfl
          · -- 5
            refine LinStep.guarded 4 88 false rfl (by kernel_rfl) (by kernel_rfl) (fun _ _ h => h) ?_
            intro QQ bb T ww hn hJ hd K HK
            have s11 := (hJ.oldSlot 11 (by kernel_rfl))
            simp only [List.getElem?_toArray, List.getElem?_cons_zero, List.getElem?_cons_succ] at s11
            have G := hJ.keep
            clear hJ hd hn
            go_simp
            exact HK.out _ _ (Keep.refl _) rfl
          · -- 6
            refine LinStep.guarded 4 88 false rfl (by kernel_rfl) (by kernel_rfl) (fun _ _ h => h) ?_
            intro QQ bb T ww hn hJ hd K HK
            have s7 := (hJ.oldSlot 7 (by kernel_rfl))
            simp only [List.getElem?_toArray, List.getElem?_cons_zero, List.getElem?_cons_succ] at s7
            have G := hJ.keep
            clear hJ hd hn
            go_simp
            exact HK.out _ _ (Keep.refl _) rfl
          · -- 7
            refine LinStep.guarded 4 88 false rfl (by kernel_rfl) (by kernel_rfl) (fun _ _ h => h) ?_
            intro QQ bb T ww hn hJ hd K HK
            obtain ⟨xv6, t6, f6⟩ := hJ.dep hd 6 90 (by kernel_rfl) (by kernel_rfl)
            obtain rfl : xv6 = .slice a7 n1 c7 := f6
            have G := hJ.keep
            clear hJ hd hn
            go_simp
            exact HK.out _ _ (Keep.refl _) rfl
          · -- 8
            refine LinStep.guarded 4 88 false rfl (by kernel_rfl) (by kernel_rfl) (fun _ _ h => h) ?_
            intro QQ bb T ww hn hJ hd K HK
            obtain ⟨xv5, t5, f5⟩ := hJ.dep hd 5 89 (by kernel_rfl) (by kernel_rfl)
            obtain rfl : xv5 = .int .i64 (n1 : Int) := f5
            obtain ⟨xv7, t7, f7⟩ := hJ.dep hd 7 91 (by kernel_rfl) (by kernel_rfl)
            obtain rfl : xv7 = .int .i64 (n1 : Int) := f7
            have G := hJ.keep
            clear hJ hd hn
            go_simp
            exact HK.out _ _ (Keep.refl _) rfl
          · -- 9
            refine LinStep.guarded 4 88 false rfl (by kernel_rfl) (by kernel_rfl) (fun _ _ h => h) ?_
            intro QQ bb T ww hn hJ hd K HK
            obtain ⟨xv8, t8, f8⟩ := hJ.dep hd 8 92 (by kernel_rfl) (by kernel_rfl)
            obtain rfl : xv8 = .bool false := f8
            have G := hJ.keep
            clear hJ hd hn
            go_simp
            exact HK.out _ _ (Keep.refl _) rfl
          · -- 10
            exact LinStep.skipped 9 93 true rfl (by kernel_rfl) (by kernel_rfl) (fun _ _ h => h) (fun _ => rfl)
          · -- 11
            exact LinStep.skipped 9 93 true rfl (by kernel_rfl) (by kernel_rfl) (fun _ _ h => h) (fun _ => rfl)
          · -- 12
            exact LinStep.skipped 9 93 true rfl (by kernel_rfl) (by kernel_rfl) (fun _ _ h => h) (fun _ => rfl)
          · -- 13
            exact LinStep.skipped 9 93 true rfl (by kernel_rfl) (by kernel_rfl) (fun _ _ h => h) (fun _ => rfl)
          · -- 14
            exact LinStep.skipped 9 93 true rfl (by kernel_rfl) (by kernel_rfl) (fun _ _ h => h) (fun _ => rfl)
          · -- 15
            exact LinStep.skipped 9 93 true rfl (by kernel_rfl) (by kernel_rfl) (fun _ _ h => h) (fun _ => rfl)
          · -- 16
            exact LinStep.skipped 9 93 true rfl (by kernel_rfl) (by kernel_rfl) (fun _ _ h => h) (fun _ => rfl)
          · -- 17
            exact LinStep.skipped 9 93 true rfl (by kernel_rfl) (by kernel_rfl) (fun _ _ h => h) (fun _ => rfl)
          · -- 18
            exact LinStep.skipped 9 93 true rfl (by kernel_rfl) (by kernel_rfl) (fun _ _ h => h) (fun _ => rfl)
          · -- 19
            exact LinStep.skipped 9 93 true rfl (by kernel_rfl) (by kernel_rfl) (fun _ _ h => h) (fun _ => rfl)
          · -- 20
            exact LinStep.skipped 9 93 true rfl (by kernel_rfl) (by kernel_rfl) (fun _ _ h => h) (fun _ => rfl)
          · -- 21
            refine LinStep.guarded 4 88 false rfl (by kernel_rfl) (by kernel_rfl) (fun _ _ h => h) ?_
            intro QQ bb T ww hn hJ hd K HK
            obtain ⟨xv9, t9, f9⟩ := hJ.dep hd 9 93 (by kernel_rfl) (by kernel_rfl)
            obtain rfl : xv9 = .bool false := f9
            obtain ⟨xv20, t20, f20⟩ := hJ.dep hd 20 104 (by kernel_rfl) (by kernel_rfl)
            obtain rfl : undef = xv20 := f20.symm
            have G := hJ.keep
            clear hJ hd hn
            go_simp
            exact HK.out _ _ (Keep.refl _) rfl
          · -- 22
            refine LinStep.plain rfl ?_
            intro QQ bb T ww hn hJ hd K HK
            obtain ⟨xv4, t4, f4⟩ := hJ.dep hd 4 88 (by kernel_rfl) (by kernel_rfl)
            obtain rfl : xv4 = .bool false := f4
            obtain ⟨xv21, t21, f21⟩ := hJ.dep hd 21 105 (by kernel_rfl) (by kernel_rfl)
            obtain rfl : xv21 = .bool false := f21
            have G := hJ.keep
            clear hJ hd hn
            go_simp
            exact HK.out _ _ (Keep.refl _) rfl
      · obtain rfl : n2 = j := by omega
        have h2' : ¬ (n2 : Int) < (n2 : Int) := by omega
        have HOM : Hid (out = M) := Lib.hid (by rw [← HO.out, List.drop_eq_nil_of_le (by rw [L1.out]; exact Nat.le_refl _), List.drop_eq_nil_of_le (by rw [L2.out]; exact Nat.le_refl _)]; simp)
        have RB := rowAtOwns HR.out.1
        rw [HOM.out] at RB
        go_wp2
        go_meet
        exact ⟨Lib.hid RB, Lib.hid HR.out.2⟩

set_option maxRecDepth 100000 in
set_option maxHeartbeats 8000000 in
theorem merges_walk (B1 R1 X1 Y1 P1 Q1 : Int) (ga1 sa1 : Option Addr) (gl1 gc1 sl1 sc1 : Nat) (gs1 ss1 : List Int) (l1 x1 : List (Int × Int)) (B2 R2 X2 Y2 P2 Q2 : Int) (ga2 sa2 : Option Addr) (gl2 gc2 sl2 sc2 : Nat) (gs2 ss2 : List Int) (l2 x2 : List (Int × Int)) (pa : Option Addr) (pn pc : Nat) (pf : Nat → Bool) (w : World) (hD1 : Hid (DraftAt w (.agg #[.int .u32 B1, .int .u32 R1, .slice ga1 gl1 gc1, .slice sa1 sl1 sc1]) B1 R1 gs1 ss1)) (HX1 : Hid (bOf B1 = X1)) (HY1 : Hid (rOf R1 = Y1)) (hP1 : 1 + X1 / 2 = P1) (hQ1 : 1 + Y1 / 4 = Q1) (bX1 : 1 ≤ X1 ∧ X1 ≤ 1048576) (bY1 : 1 ≤ Y1 ∧ Y1 ≤ 2097152) (Hl1 : Hid (traceD gs1 ss1 (min ss1.length 30) = l1)) (Hx1 : Hid (confL P1 Q1 l1 = x1)) (ok1 : Hid (okT x1 = true)) (ln1 : x1.length ≤ 30) (hD2 : Hid (DraftAt w (.agg #[.int .u32 B2, .int .u32 R2, .slice ga2 gl2 gc2, .slice sa2 sl2 sc2]) B2 R2 gs2 ss2)) (HX2 : Hid (bOf B2 = X2)) (HY2 : Hid (rOf R2 = Y2)) (hP2 : 1 + X2 / 2 = P2) (hQ2 : 1 + Y2 / 4 = Q2) (bX2 : 1 ≤ X2 ∧ X2 ≤ 1048576) (bY2 : 1 ≤ Y2 ∧ Y2 ≤ 2097152) (Hl2 : Hid (traceD gs2 ss2 (min ss2.length 30) = l2)) (Hx2 : Hid (confL P2 Q2 l2 = x2)) (ok2 : Hid (okT x2 = true)) (ln2 : x2.length ≤ 30) (hPk : Hid (BoolsAt w pa pn pf)) :
    Calls Try.prog 3 #[.agg #[(.int .u32 B1), (.int .u32 R1), (.slice ga1 gl1 gc1), (.slice sa1 sl1 sc1), (.int .u32 B2), (.int .u32 R2), (.slice ga2 gl2 gc2), (.slice sa2 sl2 sc2)], .slice pa pn pc] w (Res (.bool true) w) := by
  have d0 : (w.alloc (.cells #[(.int .u32 B1), (.int .u32 R1), (.slice ga1 gl1 gc1), (.slice sa1 sl1 sc1), (.int .u32 B2), (.int .u32 R2), (.slice ga2 gl2 gc2), (.slice sa2 sl2 sc2)] 26)).cell? ⟨w.heap.size, 0, none⟩ = some (.int .u32 B1) := by simp [go_sem]
  have d1 : (w.alloc (.cells #[(.int .u32 B1), (.int .u32 R1), (.slice ga1 gl1 gc1), (.slice sa1 sl1 sc1), (.int .u32 B2), (.int .u32 R2), (.slice ga2 gl2 gc2), (.slice sa2 sl2 sc2)] 26)).cell? ⟨w.heap.size, 1, none⟩ = some (.int .u32 R1) := by simp [go_sem]
  have d2 : (w.alloc (.cells #[(.int .u32 B1), (.int .u32 R1), (.slice ga1 gl1 gc1), (.slice sa1 sl1 sc1), (.int .u32 B2), (.int .u32 R2), (.slice ga2 gl2 gc2), (.slice sa2 sl2 sc2)] 26)).cell? ⟨w.heap.size, 2, none⟩ = some (.slice ga1 gl1 gc1) := by simp [go_sem]
  have d3 : (w.alloc (.cells #[(.int .u32 B1), (.int .u32 R1), (.slice ga1 gl1 gc1), (.slice sa1 sl1 sc1), (.int .u32 B2), (.int .u32 R2), (.slice ga2 gl2 gc2), (.slice sa2 sl2 sc2)] 26)).cell? ⟨w.heap.size, 3, none⟩ = some (.slice sa1 sl1 sc1) := by simp [go_sem]
  have d4 : (w.alloc (.cells #[(.int .u32 B1), (.int .u32 R1), (.slice ga1 gl1 gc1), (.slice sa1 sl1 sc1), (.int .u32 B2), (.int .u32 R2), (.slice ga2 gl2 gc2), (.slice sa2 sl2 sc2)] 26)).cell? ⟨w.heap.size, 4, none⟩ = some (.int .u32 B2) := by simp [go_sem]
  have d5 : (w.alloc (.cells #[(.int .u32 B1), (.int .u32 R1), (.slice ga1 gl1 gc1), (.slice sa1 sl1 sc1), (.int .u32 B2), (.int .u32 R2), (.slice ga2 gl2 gc2), (.slice sa2 sl2 sc2)] 26)).cell? ⟨w.heap.size, 5, none⟩ = some (.int .u32 R2) := by simp [go_sem]
  have d6 : (w.alloc (.cells #[(.int .u32 B1), (.int .u32 R1), (.slice ga1 gl1 gc1), (.slice sa1 sl1 sc1), (.int .u32 B2), (.int .u32 R2), (.slice ga2 gl2 gc2), (.slice sa2 sl2 sc2)] 26)).cell? ⟨w.heap.size, 6, none⟩ = some (.slice ga2 gl2 gc2) := by simp [go_sem]
  have d7 : (w.alloc (.cells #[(.int .u32 B1), (.int .u32 R1), (.slice ga1 gl1 gc1), (.slice sa1 sl1 sc1), (.int .u32 B2), (.int .u32 R2), (.slice ga2 gl2 gc2), (.slice sa2 sl2 sc2)] 26)).cell? ⟨w.heap.size, 7, none⟩ = some (.slice sa2 sl2 sc2) := by simp [go_sem]
  have KK := Lib.hid (Keep.alloc (Keep.refl w) (.cells #[(.int .u32 B1), (.int .u32 R1), (.slice ga1 gl1 gc1), (.slice sa1 sl1 sc1), (.int .u32 B2), (.int .u32 R2), (.slice ga2 gl2 gc2), (.slice sa2 sl2 sc2)] 26))
  have HD1 := Lib.hid (hD1.out.keep KK.out)
  have HD2 := Lib.hid (hD2.out.keep KK.out)
  have z0 : ∀ j, (w.alloc (.cells #[(.int .u32 B1), (.int .u32 R1), (.slice ga1 gl1 gc1), (.slice sa1 sl1 sc1), (.int .u32 B2), (.int .u32 R2), (.slice ga2 gl2 gc2), (.slice sa2 sl2 sc2)] 26)).frozen? ⟨w.heap.size, j, none⟩ = false := fun j => by simp [go_sem]
  go_enter Try.func3, Try.ntmps3
  go_upto_region 3 with (go_at_call 4; ((with_reducible refine (works_yes _).mono ?_); rintro _ w1 ⟨rfl, hk⟩; replace z0 := fun j => (hk.frozen (o := j) (cellBlock d0)).trans (z0 j); replace KK := Lib.hid (KK.out.trans hk); replace HD1 := Lib.hid (HD1.out.keep hk); replace HD2 := Lib.hid (HD2.out.keep hk); have d0 := hk.some d0; have d1 := hk.some d1; have d2 := hk.some d2; have d3 := hk.some d3; have d4 := hk.some d4; have d5 := hk.some d5; have d6 := hk.some d6; have d7 := hk.some d7))
  have hNb := cellBlock d0
  have KK0 := Lib.hid KK.out
  have HD0 : Hid (w1.cell? ⟨w.heap.size, 0, none⟩ = some (.int .u32 B1) ∧ w1.cell? ⟨w.heap.size, 1, none⟩ = some (.int .u32 R1) ∧ w1.cell? ⟨w.heap.size, 2, none⟩ = some (.slice ga1 gl1 gc1) ∧ w1.cell? ⟨w.heap.size, 3, none⟩ = some (.slice sa1 sl1 sc1) ∧ w1.cell? ⟨w.heap.size, 4, none⟩ = some (.int .u32 B2) ∧ w1.cell? ⟨w.heap.size, 5, none⟩ = some (.int .u32 R2) ∧ w1.cell? ⟨w.heap.size, 6, none⟩ = some (.slice ga2 gl2 gc2) ∧ w1.cell? ⟨w.heap.size, 7, none⟩ = some (.slice sa2 sl2 sc2)) := Lib.hid ⟨d0, d1, d2, d3, d4, d5, d6, d7⟩
  have Z0 := Lib.hid z0
  have KK0' := hNb
  obtain ⟨N0, hN⟩ : ∃ n, w.heap.size = n := ⟨_, rfl⟩
  rw [hN] at HD0 Z0 hNb d0 d1 d2 d3 d4 d5 d6 d7 ⊢
  clear z0 KK0 KK0'
  have HN := Lib.hid hN
  go_cut [5, 6] from 16 (fun a b wx => ∃ X6 X7 : Nat, a = .pointer (some ⟨X6, 0, none⟩) ∧ b = .pointer (some ⟨X7, 0, none⟩) ∧ Hid (Keep w wx) ∧ Hid (wx.cell? ⟨N0, 0, none⟩ = some (.int .u32 B1) ∧ wx.cell? ⟨N0, 1, none⟩ = some (.int .u32 R1) ∧ wx.cell? ⟨N0, 2, none⟩ = some (.slice ga1 gl1 gc1) ∧ wx.cell? ⟨N0, 3, none⟩ = some (.slice sa1 sl1 sc1) ∧ wx.cell? ⟨N0, 4, none⟩ = some (.int .u32 B2) ∧ wx.cell? ⟨N0, 5, none⟩ = some (.int .u32 R2) ∧ wx.cell? ⟨N0, 6, none⟩ = some (.slice ga2 gl2 gc2) ∧ wx.cell? ⟨N0, 7, none⟩ = some (.slice sa2 sl2 sc2)) ∧ Hid (∀ j, wx.frozen? ⟨N0, j, none⟩ = false) ∧ (wx.cell? ⟨X6, 0, none⟩ = some (.int .i64 X1) ∧ wx.cell? ⟨X6, 1, none⟩ = some (.int .i64 Y1) ∧ wx.cell? ⟨X7, 0, none⟩ = some (.int .i64 X2) ∧ wx.cell? ⟨X7, 1, none⟩ = some (.int .i64 Y2)) ∧ Hid (wx.frozen? ⟨X6, 0, none⟩ = false ∧ wx.frozen? ⟨X6, 1, none⟩ = false ∧ wx.frozen? ⟨X7, 0, none⟩ = false ∧ wx.frozen? ⟨X7, 1, none⟩ = false) ∧ ¬ X6 = X7 ∧ N0 < X6 ∧ N0 < X7)
  case first =>
    refine region_inv (J := fun bb aa wy => ∃ v5 v6 v18 v19 v20 v21 v22 v23 : Value, aa = ⟨#[Value.agg #[Value.int IntKind.u32 B1, Value.int IntKind.u32 R1, Value.slice ga1 gl1 gc1, Value.slice sa1 sl1 sc1, Value.int IntKind.u32 B2, Value.int IntKind.u32 R2, Value.slice ga2 gl2 gc2, Value.slice sa2 sl2 sc2], Value.slice pa pn pc, Value.pointer (some { block := N0, off := 0 }), undef, Value.bool false, v5, v6, undef, undef, undef, undef, undef, undef, undef, undef, undef, Value.bool true, Value.bool false, v18, v19, v20, v21, v22, v23, undef, undef, undef, undef, undef, undef, undef, undef, undef, undef, undef, undef, undef, undef, undef, undef, undef, undef, undef, undef, undef, undef, undef, undef, undef, undef, undef, undef, undef, undef, undef, undef, undef, undef, undef, undef, undef, undef, undef, undef, undef, undef, undef, undef, undef, undef, undef, undef, undef, undef, undef, undef, undef, undef, undef, undef, undef, undef, undef, undef, undef, undef, undef, undef, undef, undef, undef, undef, undef, undef, undef, undef, undef, undef, undef, undef, undef, undef, undef, undef, undef, undef, undef, undef, undef, undef, undef, undef, undef, undef, undef, undef, undef, undef, undef, undef, undef, undef, undef, undef, undef, undef, undef, undef, undef, undef, undef, undef, undef, undef, undef, undef, undef, undef, undef, undef, undef, undef, undef, undef, undef, undef, undef, undef, undef, undef, undef, undef, undef, undef, undef, undef, undef, undef, undef, undef, undef, undef, undef, undef, undef, undef, undef, undef, undef, undef, undef, undef, undef, undef, undef, undef, undef, undef, undef, undef], []⟩ ∧ Keep w1 wy ∧ (bb 0 → v18 = .pointer (some ⟨N0, 0, none⟩)) ∧ (bb 1 → v19 = .agg #[.int .u32 B1, .int .u32 R1, .slice ga1 gl1 gc1, .slice sa1 sl1 sc1]) ∧ (bb 2 → v20 = .agg #[.int .i64 X1, .int .i64 Y1]) ∧ (bb 3 → v21 = .pointer (some ⟨N0, 4, none⟩)) ∧ (bb 4 → v22 = .agg #[.int .u32 B2, .int .u32 R2, .slice ga2 gl2 gc2, .slice sa2 sl2 sc2]) ∧ (bb 5 → v23 = .agg #[.int .i64 X2, .int .i64 Y2]) ∧ (bb 6 → VarAt w1 wy v5 (bb 8) (.int .i64 X1) (.int .i64 Y1)) ∧ (bb 7 → VarAt w1 wy v6 (bb 9) (.int .i64 X2) (.int .i64 Y2)) ∧ (bb 8 → bb 6) ∧ (bb 9 → bb 7) ∧ (bb 6 → bb 7 → Apart v5 v6)) (by kernel_rfl) (by kernel_rfl) ?doney ?starty ?stepsy
    case doney =>
      rintro bb aa wy hb ⟨v5, v6, v18, v19, v20, v21, v22, v23, rfl, G, f0, f1, f2, f3, f4, f5, f6, f7, f8, f9, d6_7⟩
      replace hb : ∀ k, k < 10 → bb k := fun k hk => hb k hk
      have g0 := f0 (hb 0 (by decide))
      have g1 := f1 (hb 1 (by decide))
      have g2 := f2 (hb 2 (by decide))
      have g3 := f3 (hb 3 (by decide))
      have g4 := f4 (hb 4 (by decide))
      have g5 := f5 (hb 5 (by decide))
      have g6 := f6 (hb 6 (by decide))
      have g7 := f7 (hb 7 (by decide))
      have q6_7 := d6_7 (hb 6 (by decide)) (hb 7 (by decide))
      clear f0 f1 f2 f3 f4 f5 f6 f7 f8 f9 d6_7
      obtain rfl := g0
      obtain rfl := g1
      obtain rfl := g2
      obtain rfl := g3
      obtain rfl := g4
      obtain rfl := g5
      obtain ⟨X6, x6, y6, rfl, hX6, ⟨hc6, hd6⟩, ⟨hf6, hg6⟩, hs6⟩ := g6
      obtain ⟨rfl, rfl⟩ := hs6 (hb 8 (by decide))
      obtain ⟨X7, x7, y7, rfl, hX7, ⟨hc7, hd7⟩, ⟨hf7, hg7⟩, hs7⟩ := g7
      obtain ⟨rfl, rfl⟩ := hs7 (hb 9 (by decide))
      have nA : ¬ X6 = X7 := q6_7 X6 X7 rfl rfl
      have s6 : N0 < X6 := by omega
      have s7 : N0 < X7 := by omega
      go_wp2
      go_meet
      exact ⟨_, _, rfl, rfl, Lib.hid (KK.out.trans G), Lib.hid ⟨G.some HD0.out.1, G.some HD0.out.2.1, G.some HD0.out.2.2.1, G.some HD0.out.2.2.2.1, G.some HD0.out.2.2.2.2.1, G.some HD0.out.2.2.2.2.2.1, G.some HD0.out.2.2.2.2.2.2.1, G.some HD0.out.2.2.2.2.2.2.2⟩, Lib.hid (fun j => (G.frozen (o := j) hNb).trans (Z0.out j)), ⟨hc6, hd6, hc7, hd7⟩, Lib.hid ⟨hf6, hg6, hf7, hg7⟩, nA, s6, s7⟩
    case starty => exact ⟨_, _, _, _, _, _, _, _, rfl, Keep.drew (Keep.refl _), fun h => h.elim, fun h => h.elim, fun h => h.elim, fun h => h.elim, fun h => h.elim, fun h => h.elim, fun h => h.elim, fun h => h.elim, fun h => h.elim, fun h => h.elim, fun h => h.elim⟩
    case stepsy =>
      refine StepsFrom.cons (k := 0) ?_ (StepsFrom.cons (k := 1) ?_ (StepsFrom.cons (k := 2) ?_ (StepsFrom.cons (k := 3) ?_ (StepsFrom.cons (k := 4) ?_ (StepsFrom.cons (k := 5) ?_ (StepsFrom.cons (k := 6) ?_ (StepsFrom.cons (k := 7) ?_ (StepsFrom.cons (k := 8) ?_ (StepsFrom.cons (k := 9) ?_ (StepsFrom.nil))))))))))
      · -- 0: val
        rintro bb aa wy hn hd ⟨v5, v6, v18, v19, v20, v21, v22, v23, rfl, G, f0, f1, f2, f3, f4, f5, f6, f7, f8, f9, d6_7⟩ K hK
        have HK := Lib.hid hK
        clear hK
        go_simp
        exact HK.out _ _ ⟨_, _, _, _, _, _, _, _, rfl, G, fun _ => rfl, up (by decide) f1, up (by decide) f2, up (by decide) f3, up (by decide) f4, up (by decide) f5, fun h => (f6 (down (by decide) h)).step (Keep.refl _) (down (by decide)), fun h => (f7 (down (by decide) h)).step (Keep.refl _) (down (by decide)), fun h => Or.inr (f8 (down (by decide) h)), fun h => Or.inr (f9 (down (by decide) h)), fun h h' => d6_7 (down (by decide) h) (down (by decide) h')⟩
      · -- 1: val
        rintro bb aa wy hn hd ⟨v5, v6, v18, v19, v20, v21, v22, v23, rfl, G, f0, f1, f2, f3, f4, f5, f6, f7, f8, f9, d6_7⟩ K hK
        have b0 : bb 0 := hd ⟨0, .data⟩ (by simp) (by rfl)
        obtain rfl := f0 b0
        have k0 := G.some d0
        have k1 := G.some d1
        have k2 := G.some d2
        have k3 := G.some d3
        have HK := Lib.hid hK
        clear hK
        go_simp
        exact HK.out _ _ ⟨_, _, _, _, _, _, _, _, rfl, G, fun _ => rfl, fun _ => rfl, up (by decide) f2, up (by decide) f3, up (by decide) f4, up (by decide) f5, fun h => (f6 (down (by decide) h)).step (Keep.refl _) (down (by decide)), fun h => (f7 (down (by decide) h)).step (Keep.refl _) (down (by decide)), fun h => Or.inr (f8 (down (by decide) h)), fun h => Or.inr (f9 (down (by decide) h)), fun h h' => d6_7 (down (by decide) h) (down (by decide) h')⟩
      · -- 2: val
        rintro bb aa wy hn hd ⟨v5, v6, v18, v19, v20, v21, v22, v23, rfl, G, f0, f1, f2, f3, f4, f5, f6, f7, f8, f9, d6_7⟩ K hK
        have b1 : bb 1 := hd ⟨1, .data⟩ (by simp) (by rfl)
        obtain rfl := f1 b1
        have HK := Lib.hid hK
        clear hK
        go_wp2_with (go_at_call 5; ((with_reducible refine (draftBucket_is _ B1 R1 gs1 ss1 _ (Lib.hid (HD1.out.keep G)) X1 Y1 HX1 HY1).mono ?_); rintro _ w1 ⟨rfl, hk⟩))
        exact HK.out _ _ ⟨_, _, _, _, _, _, _, _, rfl, (G.trans hk), up (by decide) f0, fun _ => rfl, fun _ => rfl, up (by decide) f3, up (by decide) f4, up (by decide) f5, fun h => (f6 (down (by decide) h)).step hk (down (by decide)), fun h => (f7 (down (by decide) h)).step hk (down (by decide)), fun h => Or.inr (f8 (down (by decide) h)), fun h => Or.inr (f9 (down (by decide) h)), fun h h' => d6_7 (down (by decide) h) (down (by decide) h')⟩
      · -- 3: val
        rintro bb aa wy hn hd ⟨v5, v6, v18, v19, v20, v21, v22, v23, rfl, G, f0, f1, f2, f3, f4, f5, f6, f7, f8, f9, d6_7⟩ K hK
        have HK := Lib.hid hK
        clear hK
        go_simp
        exact HK.out _ _ ⟨_, _, _, _, _, _, _, _, rfl, G, up (by decide) f0, up (by decide) f1, up (by decide) f2, fun _ => rfl, up (by decide) f4, up (by decide) f5, fun h => (f6 (down (by decide) h)).step (Keep.refl _) (down (by decide)), fun h => (f7 (down (by decide) h)).step (Keep.refl _) (down (by decide)), fun h => Or.inr (f8 (down (by decide) h)), fun h => Or.inr (f9 (down (by decide) h)), fun h h' => d6_7 (down (by decide) h) (down (by decide) h')⟩
      · -- 4: val
        rintro bb aa wy hn hd ⟨v5, v6, v18, v19, v20, v21, v22, v23, rfl, G, f0, f1, f2, f3, f4, f5, f6, f7, f8, f9, d6_7⟩ K hK
        have b3 : bb 3 := hd ⟨3, .data⟩ (by simp) (by rfl)
        obtain rfl := f3 b3
        have k0 := G.some d4
        have k1 := G.some d5
        have k2 := G.some d6
        have k3 := G.some d7
        have HK := Lib.hid hK
        clear hK
        go_simp
        exact HK.out _ _ ⟨_, _, _, _, _, _, _, _, rfl, G, up (by decide) f0, up (by decide) f1, up (by decide) f2, fun _ => rfl, fun _ => rfl, up (by decide) f5, fun h => (f6 (down (by decide) h)).step (Keep.refl _) (down (by decide)), fun h => (f7 (down (by decide) h)).step (Keep.refl _) (down (by decide)), fun h => Or.inr (f8 (down (by decide) h)), fun h => Or.inr (f9 (down (by decide) h)), fun h h' => d6_7 (down (by decide) h) (down (by decide) h')⟩
      · -- 5: val
        rintro bb aa wy hn hd ⟨v5, v6, v18, v19, v20, v21, v22, v23, rfl, G, f0, f1, f2, f3, f4, f5, f6, f7, f8, f9, d6_7⟩ K hK
        have b4 : bb 4 := hd ⟨4, .data⟩ (by simp) (by rfl)
        obtain rfl := f4 b4
        have HK := Lib.hid hK
        clear hK
        go_wp2_with (go_at_call 5; ((with_reducible refine (draftBucket_is _ B2 R2 gs2 ss2 _ (Lib.hid (HD2.out.keep G)) X2 Y2 HX2 HY2).mono ?_); rintro _ w1 ⟨rfl, hk⟩))
        exact HK.out _ _ ⟨_, _, _, _, _, _, _, _, rfl, (G.trans hk), up (by decide) f0, up (by decide) f1, up (by decide) f2, up (by decide) f3, fun _ => rfl, fun _ => rfl, fun h => (f6 (down (by decide) h)).step hk (down (by decide)), fun h => (f7 (down (by decide) h)).step hk (down (by decide)), fun h => Or.inr (f8 (down (by decide) h)), fun h => Or.inr (f9 (down (by decide) h)), fun h h' => d6_7 (down (by decide) h) (down (by decide) h')⟩
      · -- 6: alloc
        rintro bb aa wy hn hd ⟨v5, v6, v18, v19, v20, v21, v22, v23, rfl, G, f0, f1, f2, f3, f4, f5, f6, f7, f8, f9, d6_7⟩ K hK
        have HK := Lib.hid hK
        clear hK
        go_simp
        exact HK.out _ _ ⟨_, _, _, _, _, _, _, _, rfl, (G.trans (Keep.alloc (Keep.refl _) _)), up (by decide) f0, up (by decide) f1, up (by decide) f2, up (by decide) f3, up (by decide) f4, up (by decide) f5, fun _ => VarAt.new G (fun h => hn (f8 (h.resolve_left (by decide)))), fun h => (f7 (down (by decide) h)).step (Keep.alloc (Keep.refl _) _) (down (by decide)), fun _ => Or.inl rfl, fun h => Or.inr (f9 (down (by decide) h)), fun _ h => (f7 (down (by decide) h)).apartNew.symm⟩
      · -- 7: alloc
        rintro bb aa wy hn hd ⟨v5, v6, v18, v19, v20, v21, v22, v23, rfl, G, f0, f1, f2, f3, f4, f5, f6, f7, f8, f9, d6_7⟩ K hK
        have HK := Lib.hid hK
        clear hK
        go_simp
        exact HK.out _ _ ⟨_, _, _, _, _, _, _, _, rfl, (G.trans (Keep.alloc (Keep.refl _) _)), up (by decide) f0, up (by decide) f1, up (by decide) f2, up (by decide) f3, up (by decide) f4, up (by decide) f5, fun h => (f6 (down (by decide) h)).step (Keep.alloc (Keep.refl _) _) (down (by decide)), fun _ => VarAt.new G (fun h => hn (f9 (h.resolve_left (by decide)))), fun h => Or.inr (f8 (down (by decide) h)), fun _ => Or.inl rfl, fun h _ => (f6 (down (by decide) h)).apartNew⟩
      · -- 8: store
        rintro bb aa wy hn hd ⟨v5, v6, v18, v19, v20, v21, v22, v23, rfl, G, f0, f1, f2, f3, f4, f5, f6, f7, f8, f9, d6_7⟩ K hK
        have b6 : bb 6 := hd ⟨6, .data⟩ (by simp) (by rfl)
        have b2 : bb 2 := hd ⟨2, .data⟩ (by simp) (by rfl)
        obtain rfl := f2 b2
        obtain ⟨X, c0, c1, rfl, hX, ⟨hc0, hc1⟩, ⟨hf0, hf1⟩, -⟩ := f6 b6
        have HK := Lib.hid hK
        clear hK
        go_simp
        exact HK.out _ _ ⟨_, _, _, _, _, _, _, _, rfl, ((G.setCell hX _).setCell hX _), up (by decide) f0, up (by decide) f1, fun _ => rfl, up (by decide) f3, up (by decide) f4, up (by decide) f5, fun _ => VarAt.here hX hc0 hc1 hf0 hf1, fun h => (f7 (down (by decide) h)).other ((d6_7 b6 (down (by decide) h)).symm) (down (by decide)), fun _ => Or.inr b6, fun h => Or.inr (f9 (down (by decide) h)), fun h h' => d6_7 (down (by decide) h) (down (by decide) h')⟩
      · -- 9: store
        rintro bb aa wy hn hd ⟨v5, v6, v18, v19, v20, v21, v22, v23, rfl, G, f0, f1, f2, f3, f4, f5, f6, f7, f8, f9, d6_7⟩ K hK
        have b7 : bb 7 := hd ⟨7, .data⟩ (by simp) (by rfl)
        have b5 : bb 5 := hd ⟨5, .data⟩ (by simp) (by rfl)
        obtain rfl := f5 b5
        obtain ⟨X, c0, c1, rfl, hX, ⟨hc0, hc1⟩, ⟨hf0, hf1⟩, -⟩ := f7 b7
        have HK := Lib.hid hK
        clear hK
        go_simp
        exact HK.out _ _ ⟨_, _, _, _, _, _, _, _, rfl, ((G.setCell hX _).setCell hX _), up (by decide) f0, up (by decide) f1, up (by decide) f2, up (by decide) f3, up (by decide) f4, fun _ => rfl, fun h => (f6 (down (by decide) h)).other (d6_7 (down (by decide) h) b7) (down (by decide)), fun _ => VarAt.here hX hc0 hc1 hf0 hf1, fun h => Or.inr (f8 (down (by decide) h)), fun _ => Or.inr b7, fun h h' => d6_7 (down (by decide) h) (down (by decide) h')⟩
  case rest =>
  obtain ⟨X6, X7, rfl, rfl, KK, HD0, Z0, ⟨hc6, hd6, hc7, hd7⟩, HF, nA, s6, s7⟩ := hcut
  clear HX1 HX2 HY1 HY2 hNb d0 d1 d2 d3 d4 d5 d6 d7
  obtain ⟨W3, rfl⟩ : ∃ W, W = wc := ⟨_, rfl⟩
  go_upto_region 4 with fail
  go_cut [5] from 16 (fun a wx => a = .pointer (some ⟨X6, 0, none⟩) ∧ Hid (Keep w wx) ∧ Hid (wx.cell? ⟨N0, 0, none⟩ = some (.int .u32 B1) ∧ wx.cell? ⟨N0, 1, none⟩ = some (.int .u32 R1) ∧ wx.cell? ⟨N0, 2, none⟩ = some (.slice ga1 gl1 gc1) ∧ wx.cell? ⟨N0, 3, none⟩ = some (.slice sa1 sl1 sc1) ∧ wx.cell? ⟨N0, 4, none⟩ = some (.int .u32 B2) ∧ wx.cell? ⟨N0, 5, none⟩ = some (.int .u32 R2) ∧ wx.cell? ⟨N0, 6, none⟩ = some (.slice ga2 gl2 gc2) ∧ wx.cell? ⟨N0, 7, none⟩ = some (.slice sa2 sl2 sc2)) ∧ Hid (∀ j, wx.frozen? ⟨N0, j, none⟩ = false) ∧ (wx.cell? ⟨X6, 0, none⟩ = some (.int .i64 P1) ∧ wx.cell? ⟨X6, 1, none⟩ = some (.int .i64 Q1) ∧ wx.cell? ⟨X7, 0, none⟩ = some (.int .i64 P2) ∧ wx.cell? ⟨X7, 1, none⟩ = some (.int .i64 Q2)))
  case first =>
    obtain ⟨hf6, hg6, hf7, hg7⟩ := HF.out
    have nB : ¬ X7 = X6 := fun e => nA e.symm
    have nC : ¬ N0 = X6 := by omega
    have nD : ¬ N0 = X7 := by omega
    have nE : ¬ X6 = N0 := by omega
    have nF : ¬ X7 = N0 := by omega
    have a1 : X1.tdiv 2 = P1 - 1 := half X1 _ 2 (by omega) (by omega)
    have a2 : X2.tdiv 2 = P2 - 1 := half X2 _ 2 (by omega) (by omega)
    have b1 : Y1.tdiv 4 = Q1 - 1 := half Y1 _ 4 (by omega) (by omega)
    have b2 : Y2.tdiv 4 = Q2 - 1 := half Y2 _ 4 (by omega) (by omega)
    have bP1 : 1 ≤ P1 ∧ P1 ≤ 524289 := by omega
    have bP2 : 1 ≤ P2 ∧ P2 ≤ 524289 := by omega
    have bQ1 : 1 ≤ Q1 ∧ Q1 ≤ 524289 := by omega
    have bQ2 : 1 ≤ Q2 ∧ Q2 ≤ 524289 := by omega
    have hsN : w.heap.size ≤ X6 := by have := HN.out; omega
    have hsM : w.heap.size ≤ X7 := by have := HN.out; omega
    clear hP1 hP2 hQ1 hQ2 bX1 bX2 bY1 bY2
    go_region
    all_goals go_wp2
    all_goals rw [show 1 + (P1 - 1) = P1 by omega, show 1 + (P2 - 1) = P2 by omega, show 1 + (Q1 - 1) = Q1 by omega, show 1 + (Q2 - 1) = Q2 by omega]
    all_goals go_meet
    skip
    all_goals refine ⟨rfl, Lib.hid (((((KK.out.setCell (a := ⟨X6, 0, none⟩) hsN (.int .i64 P1)).setCell (a := ⟨X7, 0, none⟩) hsM (.int .i64 P2)).setCell (a := ⟨X6, 1, none⟩) hsN (.int .i64 Q1)).setCell (a := ⟨X7, 1, none⟩) hsM (.int .i64 Q2)).drew), Lib.hid ?_, Lib.hid (fun j => by simp [go_sem, Z0.out j]), ?_⟩
    · obtain ⟨e0, e1, e2, e3, e4, e5, e6, e7⟩ := HD0.out
      exact ⟨by simp [go_sem, e0], by simp [go_sem, e1], by simp [go_sem, e2], by simp [go_sem, e3], by simp [go_sem, e4], by simp [go_sem, e5], by simp [go_sem, e6], by simp [go_sem, e7]⟩
    · exact ⟨by simp [go_sem, hc6], by simp [go_sem, hd6], by simp [go_sem, hc7], by simp [go_sem, hd7]⟩
  case rest =>
  clear KK HD0 Z0 hc6 hd6 hc7 hd7 HF
  obtain ⟨rfl, KK, HD0, Z0, hc6, hd6, hc7, hd7⟩ := hcut
  have bP1 : 1 ≤ P1 ∧ P1 ≤ 524289 := by omega
  have bP2 : 1 ≤ P2 ∧ P2 ≤ 524289 := by omega
  have bQ1 : 1 ≤ Q1 ∧ Q1 ≤ 524289 := by omega
  have bQ2 : 1 ≤ Q2 ∧ Q2 ≤ 524289 := by omega
  clear hP1 hP2 hQ1 hQ2 bX1 bX2 bY1 bY2
  obtain ⟨W4, rfl⟩ : ∃ W, W = wc := ⟨_, rfl⟩
  go_upto_region 5 with fail
  go_cut [5] from 16 (fun a wx => a = .pointer (some ⟨X6, 0, none⟩) ∧ Hid (Keep w wx) ∧ Hid (wx.cell? ⟨N0, 0, none⟩ = some (.int .u32 (P1 - 1)) ∧ wx.cell? ⟨N0, 1, none⟩ = some (.int .u32 (Q1 - 1)) ∧ wx.cell? ⟨N0, 2, none⟩ = some (.slice ga1 gl1 gc1) ∧ wx.cell? ⟨N0, 3, none⟩ = some (.slice sa1 sl1 sc1) ∧ wx.cell? ⟨N0, 4, none⟩ = some (.int .u32 (P2 - 1)) ∧ wx.cell? ⟨N0, 5, none⟩ = some (.int .u32 (Q2 - 1)) ∧ wx.cell? ⟨N0, 6, none⟩ = some (.slice ga2 gl2 gc2) ∧ wx.cell? ⟨N0, 7, none⟩ = some (.slice sa2 sl2 sc2)) ∧ (wx.cell? ⟨X6, 0, none⟩ = some (.int .i64 P1) ∧ wx.cell? ⟨X6, 1, none⟩ = some (.int .i64 Q1) ∧ wx.cell? ⟨X7, 0, none⟩ = some (.int .i64 P2) ∧ wx.cell? ⟨X7, 1, none⟩ = some (.int .i64 Q2)))
  case first =>
    obtain ⟨d0, d1, d2, d3, d4, d5, d6, d7⟩ := HD0.out
    have nC : ¬ N0 = X6 := by omega
    have nD : ¬ N0 = X7 := by omega
    have nE : ¬ X6 = N0 := by omega
    have nF : ¬ X7 = N0 := by omega
    have hsN : w.heap.size ≤ N0 := by have := HN.out; omega
    have z0 := Z0.out
    have w1' : IntKind.u32.wrap (P1 - 1) = P1 - 1 := IntWalk.u32_in _ (by omega)
    have w2' : IntKind.u32.wrap (P2 - 1) = P2 - 1 := IntWalk.u32_in _ (by omega)
    have w3' : IntKind.u32.wrap (Q1 - 1) = Q1 - 1 := IntWalk.u32_in _ (by omega)
    have w4' : IntKind.u32.wrap (Q2 - 1) = Q2 - 1 := IntWalk.u32_in _ (by omega)
    go_region
    all_goals go_wp2
    all_goals go_meet
    all_goals refine ⟨rfl, Lib.hid (((((KK.out.setCell (a := ⟨N0, 0, none⟩) hsN (.int .u32 (P1 - 1))).setCell (a := ⟨N0, 1, none⟩) hsN (.int .u32 (Q1 - 1))).setCell (a := ⟨N0, 4, none⟩) hsN (.int .u32 (P2 - 1))).setCell (a := ⟨N0, 5, none⟩) hsN (.int .u32 (Q2 - 1))).drew), Lib.hid ⟨by simp [go_sem, d0], by simp [go_sem, d1], by simp [go_sem, d2], by simp [go_sem, d3], by simp [go_sem, d4], by simp [go_sem, d5], by simp [go_sem, d6], by simp [go_sem, d7]⟩, ?_⟩
    all_goals exact ⟨by simp [go_sem, hc6], by simp [go_sem, hd6], by simp [go_sem, hc7], by simp [go_sem, hd7]⟩
  case rest =>
  clear KK HD0 Z0 hc6 hd6 hc7 hd7
  obtain ⟨rfl, KK, HD0, hc6, hd6, hc7, hd7⟩ := hcut
  obtain ⟨W5, rfl⟩ : ∃ W, W = wc := ⟨_, rfl⟩
  go_upto_region 6 with fail
  go_cut [5, 7, 8] from 16 (fun a v7 v8 wx => a = .pointer (some ⟨X6, 0, none⟩) ∧ Hid (Keep w wx) ∧ RowAt wx v7 x1 ∧ RowAt wx v8 x2 ∧ (wx.cell? ⟨X6, 0, none⟩ = some (.int .i64 P1) ∧ wx.cell? ⟨X6, 1, none⟩ = some (.int .i64 Q1) ∧ wx.cell? ⟨X7, 0, none⟩ = some (.int .i64 P2) ∧ wx.cell? ⟨X7, 1, none⟩ = some (.int .i64 Q2)))
  case first =>
    obtain ⟨d0, d1, d2, d3, d4, d5, d6, d7⟩ := HD0.out
    have hsN : w.heap.size ≤ N0 := by have := HN.out; omega
    have HD1 := Lib.hid ((hD1.out.keep KK.out).other (B' := P1 - 1) (R' := Q1 - 1) (by omega) (by omega))
    have HN1 : Hid (bOf (P1 - 1) = P1) := Lib.hid (by unfold bOf; omega)
    have HM1 : Hid (rOf (Q1 - 1) = Q1) := Lib.hid (by unfold rOf; omega)
    have HD2 := Lib.hid ((hD2.out.keep KK.out).other (B' := P2 - 1) (R' := Q2 - 1) (by omega) (by omega))
    have HN2 : Hid (bOf (P2 - 1) = P2) := Lib.hid (by unfold bOf; omega)
    have HM2 : Hid (rOf (Q2 - 1) = Q2) := Lib.hid (by unfold rOf; omega)
    refine region_lin (W0 := W5) (listF [fun v ww => v = .pointer (some ⟨N0, 0, none⟩), fun v ww => v = .agg #[.int .u32 (P1 - 1), .int .u32 (Q1 - 1), .slice ga1 gl1 gc1, .slice sa1 sl1 sc1], fun v ww => RowAt ww v x1, fun v ww => v = .pointer (some ⟨N0, 4, none⟩), fun v ww => v = .agg #[.int .u32 (P2 - 1), .int .u32 (Q2 - 1), .slice ga2 gl2 gc2, .slice sa2 sl2 sc2], fun v ww => RowAt ww v x2, fun v ww => RowAt ww v x1, fun v ww => RowAt ww v x2]) (listF_stable _ ⟨fun _ _ _ _ h => h, fun _ _ _ _ h => h, fun _ _ _ hk h => h.keep hk, fun _ _ _ _ h => h, fun _ _ _ _ h => h, fun _ _ _ hk h => h.keep hk, fun _ _ _ hk h => h.keep hk, fun _ _ _ hk h => h.keep hk, trivial⟩) (by kernel_rfl) (by kernel_rfl) (by kernel_rfl) (by kernel_rfl) (Keep.refl _) ?done6 ?steps6
    case done6 =>
      intro T6 wz6 hJ
      obtain ⟨xv0, t0, f0⟩ := hJ.fact 0 68 (by decide) (by kernel_rfl)
      obtain rfl : xv0 = .pointer (some ⟨N0, 0, none⟩) := f0
      obtain ⟨xv1, t1, f1⟩ := hJ.fact 1 69 (by decide) (by kernel_rfl)
      obtain rfl : xv1 = .agg #[.int .u32 (P1 - 1), .int .u32 (Q1 - 1), .slice ga1 gl1 gc1, .slice sa1 sl1 sc1] := f1
      obtain ⟨xv2, t2, f2⟩ := hJ.fact 2 70 (by decide) (by kernel_rfl)
      replace f2 : RowAt wz6 xv2 x1 := f2
      obtain ⟨xv3, t3, f3⟩ := hJ.fact 3 71 (by decide) (by kernel_rfl)
      obtain rfl : xv3 = .pointer (some ⟨N0, 4, none⟩) := f3
      obtain ⟨xv4, t4, f4⟩ := hJ.fact 4 72 (by decide) (by kernel_rfl)
      obtain rfl : xv4 = .agg #[.int .u32 (P2 - 1), .int .u32 (Q2 - 1), .slice ga2 gl2 gc2, .slice sa2 sl2 sc2] := f4
      obtain ⟨xv5, t5, f5⟩ := hJ.fact 5 73 (by decide) (by kernel_rfl)
      replace f5 : RowAt wz6 xv5 x2 := f5
      obtain ⟨xv6, t6, f6⟩ := hJ.fact 6 7 (by decide) (by kernel_rfl)
      replace f6 : RowAt wz6 xv6 x1 := f6
      obtain ⟨xv7, t7, f7⟩ := hJ.fact 7 8 (by decide) (by kernel_rfl)
      replace f7 : RowAt wz6 xv7 x2 := f7
      have hfr := hJ.frame [(68, .pointer (some ⟨N0, 0, none⟩)), (69, .agg #[.int .u32 (P1 - 1), .int .u32 (Q1 - 1), .slice ga1 gl1 gc1, .slice sa1 sl1 sc1]), (70, xv2), (71, .pointer (some ⟨N0, 4, none⟩)), (72, .agg #[.int .u32 (P2 - 1), .int .u32 (Q2 - 1), .slice ga2 gl2 gc2, .slice sa2 sl2 sc2]), (73, xv5), (7, xv6), (8, xv7)] (by simp [t0, t1, t2, t3, t4, t5, t6, t7]) (by kernel_rfl)
      have G := hJ.keep
      clear hJ t0 t1 t2 t3 t4 t5 t6 t7
      rw [hfr]
      clear hfr T6
      simp only [List.foldl_cons, List.foldl_nil, List.setIfInBounds_toArray, List.set_cons_zero, List.set_cons_succ]
      go_wp2
      go_meet
      exact ⟨rfl, Lib.hid (KK.out.trans G), f6, f7, G.some hc6, G.some hd6, G.some hc7, G.some hd7⟩
    case steps6 =>
      refine LinSteps.cons (k := 0) ?_ (LinSteps.cons (k := 1) ?_ (LinSteps.cons (k := 2) ?_ (LinSteps.cons (k := 3) ?_ (LinSteps.cons (k := 4) ?_ (LinSteps.cons (k := 5) ?_ (LinSteps.cons (k := 6) ?_ (LinSteps.cons (k := 7) ?_ (LinSteps.nil))))))))
      · -- 0
        refine LinStep.plain rfl ?_
        intro QQ bb T ww hn hJ hd K HK
        have s2 := (hJ.oldSlot 2 (by kernel_rfl))
        simp only [List.getElem?_toArray, List.getElem?_cons_zero, List.getElem?_cons_succ] at s2
        have G := hJ.keep
        clear hJ hd hn
        go_simp
        exact HK.out _ _ (Keep.refl _) rfl
      · -- 1
        refine LinStep.plain rfl ?_
        intro QQ bb T ww hn hJ hd K HK
        obtain ⟨xv0, t0, f0⟩ := hJ.dep hd 0 68 (by kernel_rfl) (by kernel_rfl)
        obtain rfl : xv0 = .pointer (some ⟨N0, 0, none⟩) := f0
        have G := hJ.keep
        clear hJ hd hn
        have k0 := G.some d0
        have k1 := G.some d1
        have k2 := G.some d2
        have k3 := G.some d3
        go_simp
        exact HK.out _ _ (Keep.refl _) rfl
      · -- 2
        refine LinStep.plain rfl ?_
        intro QQ bb T ww hn hJ hd K HK
        obtain ⟨xv1, t1, f1⟩ := hJ.dep hd 1 69 (by kernel_rfl) (by kernel_rfl)
        obtain rfl : xv1 = .agg #[.int .u32 (P1 - 1), .int .u32 (Q1 - 1), .slice ga1 gl1 gc1, .slice sa1 sl1 sc1] := f1
        have G := hJ.keep
        clear hJ hd hn
        go_wp2_with (go_at_call 6; ((with_reducible refine (conf_is _ (P1 - 1) (Q1 - 1) gs1 ss1 _ (Lib.hid (HD1.out.keep G)) P1 Q1 HN1 HM1 l1 Hl1).mono ?_); rintro _ w9 ⟨v9, rfl, hr, hk, -⟩; rw [Hx1.out] at hr))
        exact HK.out _ _ hk (hr)
      · -- 3
        refine LinStep.plain rfl ?_
        intro QQ bb T ww hn hJ hd K HK
        have s2 := (hJ.oldSlot 2 (by kernel_rfl))
        simp only [List.getElem?_toArray, List.getElem?_cons_zero, List.getElem?_cons_succ] at s2
        have G := hJ.keep
        clear hJ hd hn
        go_simp
        exact HK.out _ _ (Keep.refl _) rfl
      · -- 4
        refine LinStep.plain rfl ?_
        intro QQ bb T ww hn hJ hd K HK
        obtain ⟨xv3, t3, f3⟩ := hJ.dep hd 3 71 (by kernel_rfl) (by kernel_rfl)
        obtain rfl : xv3 = .pointer (some ⟨N0, 4, none⟩) := f3
        have G := hJ.keep
        clear hJ hd hn
        have k0 := G.some d4
        have k1 := G.some d5
        have k2 := G.some d6
        have k3 := G.some d7
        go_simp
        exact HK.out _ _ (Keep.refl _) rfl
      · -- 5
        refine LinStep.plain rfl ?_
        intro QQ bb T ww hn hJ hd K HK
        obtain ⟨xv4, t4, f4⟩ := hJ.dep hd 4 72 (by kernel_rfl) (by kernel_rfl)
        obtain rfl : xv4 = .agg #[.int .u32 (P2 - 1), .int .u32 (Q2 - 1), .slice ga2 gl2 gc2, .slice sa2 sl2 sc2] := f4
        have G := hJ.keep
        clear hJ hd hn
        go_wp2_with (go_at_call 6; ((with_reducible refine (conf_is _ (P2 - 1) (Q2 - 1) gs2 ss2 _ (Lib.hid (HD2.out.keep G)) P2 Q2 HN2 HM2 l2 Hl2).mono ?_); rintro _ w9 ⟨v9, rfl, hr, hk, -⟩; rw [Hx2.out] at hr))
        exact HK.out _ _ hk (hr)
      · -- 6
        refine LinStep.plain rfl ?_
        intro QQ bb T ww hn hJ hd K HK
        obtain ⟨xv2, t2, f2⟩ := hJ.dep hd 2 70 (by kernel_rfl) (by kernel_rfl)
        replace f2 : RowAt ww xv2 x1 := f2
        have G := hJ.keep
        clear hJ hd hn
        go_simp
        exact HK.out _ _ (Keep.refl _) (f2)
      · -- 7
        refine LinStep.plain rfl ?_
        intro QQ bb T ww hn hJ hd K HK
        obtain ⟨xv5, t5, f5⟩ := hJ.dep hd 5 73 (by kernel_rfl) (by kernel_rfl)
        replace f5 : RowAt ww xv5 x2 := f5
        have G := hJ.keep
        clear hJ hd hn
        go_simp
        exact HK.out _ _ (Keep.refl _) (f5)
  case rest =>
  clear KK HD0 HD1 HD2 hc6 hd6 hc7 hd7 hD1 hD2 Hl1 Hl2 nA s6 s7 HN
  obtain ⟨rfl, KK, r7, r8, v0, v1, u0, u1⟩ := hcut
  obtain ⟨W6, rfl⟩ : ∃ W, W = wc := ⟨_, rfl⟩
  have F1 : Hid (fitsL P1 Q1 x1 = true) := Lib.hid (by rw [← Hx1.out]; exact confL_fits _ _ _)
  have F2 : Hid (fitsL P2 Q2 x2 = true) := Lib.hid (by rw [← Hx2.out]; exact confL_fits _ _ _)
  clear Hx1 Hx2
  obtain ⟨a7, c7, rfl, e7⟩ := r7.form
  obtain ⟨a8, c8, rfl, e8⟩ := r8.form
  have E7 := Lib.hid e7
  have E8 := Lib.hid e8
  obtain ⟨n1, hn1⟩ : ∃ n1, x1.length = n1 := ⟨_, rfl⟩
  obtain ⟨n2, hn2⟩ : ∃ n2, x2.length = n2 := ⟨_, rfl⟩
  have L1 := Lib.hid hn1
  have L2 := Lib.hid hn2
  rw [hn1] at E7 ln1 ⊢
  rw [hn2] at E8 ln2 ⊢
  obtain ⟨M, hM⟩ : ∃ M, x1.merge x2 before = M := ⟨_, rfl⟩
  have HM := Lib.hid hM
  clear e7 e8 hn1 hn2 hM r7 r8
  go_upto_block 0 with fail
  go_cut [9] from 16 (fun v9 wx => Hid (RowAt wx v9 M) ∧ Hid (Keep W6 wx))
  case first =>
    exact merges_loop1 x1 x2 M n1 n2 c7 c8 a7 a8 _ _ _ _ _ _ _ _ _ _ _ _ _ _ _ _ _ _ _ _ _ _ _ _ _ _ _ _ _ _ _ _ _ _ _ _ _ _ _ _ _ _ _ _ _ _ _ _ _ _ _ _ _ _ _ _ _ _ _ _ _ _ _ _ _ _ _ _ _ _ _ _ _ _ _ _ _ _ _ _ _ _ _ _ _ _ _ _ _ _ _ _ _ _ _ _ _ _ _ _ _ _ _ _ _ _ _ _ _ _ _ _ _ _ _ _ _ _ _ _ _ _ _ _ _ _ _ _ _ _ _ _ _ _ _ _ _ _ _ _ _ _ _ _ _ _ _ _ _ _ _ _ _ _ _ _ _ _ _ _ _ _ _ _ _ _ _ _ _ W6 ln1 ln2 E7 E8 L1 L2 HM _ _ _ (by assumption) (by assumption)
  case rest =>
  obtain ⟨RB, KL⟩ := hcut
  obtain ⟨W7, rfl⟩ : ∃ W, W = wc := ⟨_, rfl⟩
  replace RB := RB.out
  obtain ⟨a9, c9, rfl, -⟩ := RB.form
  replace RB := Lib.hid RB
  replace v0 := KL.out.some v0
  replace v1 := KL.out.some v1
  replace u0 := KL.out.some u0
  replace u1 := KL.out.some u1
  replace KK := Lib.hid (KK.out.trans KL.out)
  replace E7 : Hid (∀ j, j < n1 → ∃ b off, a7 = some ⟨b, off, none⟩ ∧ W7.cell? ⟨b, off + j * 2, none⟩ = some (.int .i64 (atL x1 j)) ∧ W7.cell? ⟨b, off + j * 2 + 1, none⟩ = some (.int .i64 (szL x1 j))) := Lib.hid fun j hj => by obtain ⟨b, off, e, h1, h2⟩ := E7.out j hj; exact ⟨b, off, e, KL.out.some h1, KL.out.some h2⟩
  have HPK := Lib.hid (hPk.out.keep KK.out)
  clear KL E8 hPk
  go_upto_block 2 with fail
  go_cut [10] from 16 (fun v10 wx => ∃ out : List (Int × Int), Hid (RowAt wx v10 out) ∧ Hid (out.Sublist x1) ∧ Hid (Keep W7 wx))
  case first =>
    obtain ⟨i0, hi0, hz0, hz1, hz2⟩ := info_parts infoArrival
    clear v0 v1 u0 u1 F1 F2 RB KK
    go_wp2
    go_loopw [10, 13] (fun s10 s13 wr => ∃ (i : Nat) (out : List (Int × Int)), i ≤ n1 ∧ s13 = .int .i64 (i : Int) ∧ Hid (wr.ownsRow W7.heap.size 35 2 s10 out.length (cellsL out) ∧ Keep W7 wr) ∧ Hid (out.Sublist (x1.take i))) (fun _ i _ => n1 - (intOf i).toNat)
    case atStart => exact ⟨0, [], by omega, rfl, Lib.hid ⟨World.ownsRow_nil _ _ _ _, Keep.refl _⟩, Lib.hid (List.nil_sublist _)⟩
    case round =>
      obtain ⟨i, out, hi, rfl, HR, HO⟩ := hrel
      have hol : out.length ≤ 30 := by have := HO.out.length_le; rw [List.length_take] at this; omega
      by_cases h1 : i < n1
      · obtain ⟨b7, o7, rfl, c0, c1⟩ := E7.out i h1
        have c0 := HR.out.2.some c0
        have c1 := HR.out.2.some c1
        have h1' : (i : Int) < (n1 : Int) := by omega
        obtain ⟨p, hp⟩ : ∃ p, atL x1 i = p := ⟨_, rfl⟩
        obtain ⟨q, hq⟩ : ∃ q, szL x1 i = q := ⟨_, rfl⟩
        rw [hp] at c0
        rw [hq] at c1
        have HT : Hid (x1.take (i + 1) = x1.take i ++ [(p, q)]) := Lib.hid (by rw [← hp, ← hq]; exact take_next (by rw [L1.out]; exact h1))
        clear hp hq
        by_cases h2 : i < pn
        · obtain ⟨bp, op, rfl, cp⟩ := HPK.out.2 i h2
          have cp := HR.out.2.some cp
          have h2' : ¬ (pn : Int) ≤ (i : Int) := by omega
          cases hpf : pf i with
          | true =>
            rw [hpf] at cp
            go_wp2_with (at_builtin; refine wpList_append_lies _ rfl _ _ 32 rfl W7.heap.size 35 i0 (.agg #[.int .i64 0, .int .i64 0]) 2 16 Try.underlying32 hi0 hz0 hz1 hz2 rfl (by decide) _ _ _ rfl (HR.out.1.alloc _) ⟨wr.heap.size, 0, none⟩ 1 1 [.int .i64 p, .int .i64 q] rfl rfl (cell_two_new _ _ _ _) (by intro u hu; simp at hu; rcases hu with rfl | rfl <;> rfl) (by omega) (by unfold maxLen; omega) (by omega) (by have := HR.out.2.size; simp; omega) _ rfl ?_; intro g cap w3 hown3 hgrow3 _ _)
            go_roundw
            case rel =>
              refine ⟨i + 1, out ++ [(p, q)], by omega, by go_num, Lib.hid ⟨?_, (HR.out.2.alloc _).byRow hgrow3 (fun k hk => (HR.out.1.lt k hk).1)⟩, Lib.hid (by rw [HT.out]; exact HO.out.append (List.Sublist.refl _))⟩
              rw [cellsL_append, List.length_append]
              exact hown3
            case measure => simp [intOf]; omega
          | false =>
            rw [hpf] at cp
            go_wp2
            go_roundw
            case rel => exact ⟨i + 1, out, by omega, by go_num, HR, Lib.hid (by rw [HT.out]; exact HO.out.trans (List.sublist_append_left _ _))⟩
            case measure => simp [intOf]; omega
        · have h2' : (pn : Int) ≤ (i : Int) := by omega
          go_wp2_with (at_builtin; refine wpList_append_lies _ rfl _ _ 32 rfl W7.heap.size 35 i0 (.agg #[.int .i64 0, .int .i64 0]) 2 16 Try.underlying32 hi0 hz0 hz1 hz2 rfl (by decide) _ _ _ rfl (HR.out.1.alloc _) ⟨wr.heap.size, 0, none⟩ 1 1 [.int .i64 p, .int .i64 q] rfl rfl (cell_two_new _ _ _ _) (by intro u hu; simp at hu; rcases hu with rfl | rfl <;> rfl) (by omega) (by unfold maxLen; omega) (by omega) (by have := HR.out.2.size; simp; omega) _ rfl ?_; intro g cap w3 hown3 hgrow3 _ _)
          go_roundw
          case rel =>
            refine ⟨i + 1, out ++ [(p, q)], by omega, by go_num, Lib.hid ⟨?_, (HR.out.2.alloc _).byRow hgrow3 (fun k hk => (HR.out.1.lt k hk).1)⟩, Lib.hid (by rw [HT.out]; exact HO.out.append (List.Sublist.refl _))⟩
            rw [cellsL_append, List.length_append]
            exact hown3
          case measure => simp [intOf]; omega
      · obtain rfl : n1 = i := by omega
        have h1' : ¬ (n1 : Int) < (n1 : Int) := by omega
        go_wp2
        go_meet
        exact ⟨out, Lib.hid (rowAtOwns HR.out.1), Lib.hid (by have := HO.out; rwa [List.take_of_length_le (by rw [L1.out]; exact Nat.le_refl _)] at this), Lib.hid HR.out.2⟩
  case rest =>
  obtain ⟨out, RS, HSUB, KL⟩ := hcut
  obtain ⟨W8, rfl⟩ : ∃ W, W = wc := ⟨_, rfl⟩
  replace RS := RS.out
  obtain ⟨a10, c10, rfl, -⟩ := RS.form
  replace RS := Lib.hid RS
  replace v0 := KL.out.some v0
  replace v1 := KL.out.some v1
  replace u0 := KL.out.some u0
  replace u1 := KL.out.some u1
  replace KK := Lib.hid (KK.out.trans KL.out)
  replace RB := Lib.hid (RB.out.keep KL.out)
  have FS : Hid (fitsV P1 Q1 out = true) := Lib.hid (by unfold fitsV; rw [okBk_iff.2 (by omega), okT_sub ok1.out HSUB.out, fits_sub (by omega) (by omega) ok1.out HSUB.out F1.out]; rfl)
  have hrow : ∀ w' : World, RowAt (w'.alloc (.cells #[.int .i64 P1, .int .i64 Q1, .int .i64 P2, .int .i64 Q2] 30)) (.slice (some ⟨w'.heap.size, 0, none⟩) 2 2) [(P1, Q1), (P2, Q2)] := fun w' => rowNew w' [(P1, Q1), (P2, Q2)] _ (by simp)
  clear E7 HPK HSUB KL
  by_cases hbig : 1048576 < P1 + P2
  · have HS : Hid (sumR [(P1, Q1), (P2, Q2)] = ((0, 0), 6)) := Lib.hid (sum_two_big (by omega) (by omega) (by omega) (by omega) hbig)
    go_wp2_with (first | (go_at_call 7; ((with_reducible refine (sum_is _ [(P1, Q1), (P2, Q2)] 0 0 6 _ (Lib.hid (hrow _)) HS).mono ?_); rintro _ w1 ⟨rfl, hk⟩; have v0 := hk.some (by first | exact v0 | exact cell_alloc_old _ v0); have v1 := hk.some (by first | exact v1 | exact cell_alloc_old _ v1); have u0 := hk.some (by first | exact u0 | exact cell_alloc_old _ u0); have u1 := hk.some (by first | exact u1 | exact cell_alloc_old _ u1); have b6 := cellBlock v0; have b7 := cellBlock u0; have RB := Lib.hid ((RB.out.keep (by first | exact Keep.refl _ | exact Keep.alloc (Keep.refl _) _)).keep hk); have RS := Lib.hid ((RS.out.keep (by first | exact Keep.refl _ | exact Keep.alloc (Keep.refl _) _)).keep hk); have KK := Lib.hid (by first | exact KK.out.trans hk | exact (KK.out.alloc _).trans hk))) | (go_at_call 8; ((with_reducible refine (lawFits_any P1 Q1 _ out _ (Lib.hid (RS.out.keep (by first | exact Keep.refl _ | exact Keep.alloc (Keep.refl _) _))) true FS).mono ?_); rintro _ w1 ⟨rfl, hk⟩; have v0 := hk.some (by first | exact v0 | exact cell_alloc_old _ v0); have v1 := hk.some (by first | exact v1 | exact cell_alloc_old _ v1); have u0 := hk.some (by first | exact u0 | exact cell_alloc_old _ u0); have u1 := hk.some (by first | exact u1 | exact cell_alloc_old _ u1); have b6 := cellBlock v0; have b7 := cellBlock u0; have RB := Lib.hid ((RB.out.keep (by first | exact Keep.refl _ | exact Keep.alloc (Keep.refl _) _)).keep hk); have RS := Lib.hid ((RS.out.keep (by first | exact Keep.refl _ | exact Keep.alloc (Keep.refl _) _)).keep hk); have KK := Lib.hid (by first | exact KK.out.trans hk | exact (KK.out.alloc _).trans hk))))
    go_ret
    exact ⟨rfl, by first | exact KK.out | exact KK.out.alloc _⟩
  · have HS : Hid (sumR [(P1, Q1), (P2, Q2)] = ((P1 + P2, Q1 + Q2), 0)) := Lib.hid (sum_two (by omega) (by omega) (by omega) (by omega) (by omega) (by omega))
    have FM : Hid (fitsV (P1 + P2) (Q1 + Q2) M = true) := Lib.hid (by have hm := okT_merge ok1.out ok2.out (by rw [L1.out, L2.out]; omega); rw [HM.out] at hm; unfold fitsV; rw [okBk_iff.2 (by omega), hm, fits_merge (by omega) (by omega) (by omega) (by omega) ok1.out ok2.out hm (by rw [← HM.out]; exact List.merge_perm_append _) F1.out F2.out]; rfl)
    go_wp2_with (first | (go_at_call 7; ((with_reducible refine (sum_is _ [(P1, Q1), (P2, Q2)] (P1 + P2) (Q1 + Q2) 0 _ (Lib.hid (hrow _)) HS).mono ?_); rintro _ w1 ⟨rfl, hk⟩; have v0 := hk.some (by first | exact v0 | exact cell_alloc_old _ v0); have v1 := hk.some (by first | exact v1 | exact cell_alloc_old _ v1); have u0 := hk.some (by first | exact u0 | exact cell_alloc_old _ u0); have u1 := hk.some (by first | exact u1 | exact cell_alloc_old _ u1); have b6 := cellBlock v0; have b7 := cellBlock u0; have RB := Lib.hid ((RB.out.keep (by first | exact Keep.refl _ | exact Keep.alloc (Keep.refl _) _)).keep hk); have RS := Lib.hid ((RS.out.keep (by first | exact Keep.refl _ | exact Keep.alloc (Keep.refl _) _)).keep hk); have KK := Lib.hid (by first | exact KK.out.trans hk | exact (KK.out.alloc _).trans hk))) | (go_at_call 8; ((with_reducible refine (lawFits_any (P1 + P2) (Q1 + Q2) _ M _ (Lib.hid (RB.out.keep (by first | exact Keep.refl _ | exact Keep.alloc (Keep.refl _) _))) true FM).mono ?_); rintro _ w1 ⟨rfl, hk⟩; have v0 := hk.some (by first | exact v0 | exact cell_alloc_old _ v0); have v1 := hk.some (by first | exact v1 | exact cell_alloc_old _ v1); have u0 := hk.some (by first | exact u0 | exact cell_alloc_old _ u0); have u1 := hk.some (by first | exact u1 | exact cell_alloc_old _ u1); have b6 := cellBlock v0; have b7 := cellBlock u0; have RB := Lib.hid ((RB.out.keep (by first | exact Keep.refl _ | exact Keep.alloc (Keep.refl _) _)).keep hk); have RS := Lib.hid ((RS.out.keep (by first | exact Keep.refl _ | exact Keep.alloc (Keep.refl _) _)).keep hk); have KK := Lib.hid (by first | exact KK.out.trans hk | exact (KK.out.alloc _).trans hk))) | (go_at_call 8; ((with_reducible refine (lawFits_any P1 Q1 _ out _ RS true FS).mono ?_); rintro _ w1 ⟨rfl, hk⟩; have v0 := hk.some (by first | exact v0 | exact cell_alloc_old _ v0); have v1 := hk.some (by first | exact v1 | exact cell_alloc_old _ v1); have u0 := hk.some (by first | exact u0 | exact cell_alloc_old _ u0); have u1 := hk.some (by first | exact u1 | exact cell_alloc_old _ u1); have b6 := cellBlock v0; have b7 := cellBlock u0; have RB := Lib.hid ((RB.out.keep (by first | exact Keep.refl _ | exact Keep.alloc (Keep.refl _) _)).keep hk); have RS := Lib.hid ((RS.out.keep (by first | exact Keep.refl _ | exact Keep.alloc (Keep.refl _) _)).keep hk); have KK := Lib.hid (by first | exact KK.out.trans hk | exact (KK.out.alloc _).trans hk))))
    go_ret
    exact ⟨rfl, by first | exact KK.out | exact KK.out.alloc _⟩
end Go.Proofs.Ytaknbjjcgcmdlaa
