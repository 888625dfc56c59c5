/- BucketMerges' two loops: the traces merged, and a part of one. Written by genmerges5.py. -/
import Derived.Test.YtaknbjjcgcmdlaaLawLevels
import Derived.Test.YtaknbjjcgcmdlaaMergeM
import Derived.Test.YtaknbjjcgcmdlaaPairArg
import Derived.Test.YtaknbjjcgcmdlaaLin
import Derived.Deep.CutBlock
import Derived.Deep.DeepCutAuto
import Derived.BigRegion
namespace Go.Proofs.Ytaknbjjcgcmdlaa
open Go Go.RowKit

theorem yielded_undef {ops : Array Oper} {T : Array Value} {j d : Nat} (hj : dstOf ops j = some d) (h : T[d]? = some undef) : yielded ops T j = none := by
  unfold dstOf at hj
  unfold yielded
  rw [hj]
  simp [h]
  rfl
/-- An operation whose guard was passed over. -/
theorem LinStep.unmet {P : Program} {ops : Array Oper} {T0 : Array Value} {W0 : World} {F : Nat → Value → World → Prop} {k : Nat} {o : Oper} (j d : Nat) (b : Bool) (hg : o.guard = some (j, b)) (hj : dstOf ops j = some d) (hw : waitsFor o j = true) (hy : ∀ v w, F j v w → v = undef) (hF : ∀ w, F k undef w) :
    LinStep P T0 W0 ops F k o := by
  intro Q bb T w hn hJ hd K hK
  obtain ⟨v, hv, hf⟩ := hJ.dep hd j d hw hj
  rw [if_neg (by unfold Region.wanted; rw [hg]; simp [yielded_undef hj (show T[d]? = some undef by rw [hv, hy v w hf])])]
  exact hK _ _ (Keep.refl _) (hF w)
theorem half (n a b : Int) (h : 0 ≤ n) (ha : n / b = a) : n.tdiv b = a := by rw [Int.tdiv_eq_ediv_of_nonneg h, ha]
theorem DraftAt.other {w : World} {B R B' R' : Int} {g s : Value} {gs ss : List Int} (h : DraftAt w (.agg #[.int .u32 B, .int .u32 R, g, s]) B R gs ss) (hb : 0 ≤ B' ∧ B' ≤ 4294967295) (hr : 0 ≤ R' ∧ R' ≤ 4294967295) : DraftAt w (.agg #[.int .u32 B', .int .u32 R', g, s]) B' R' gs ss := by
  obtain ⟨⟨g', s', e, h1, h2⟩, -, -⟩ := h
  cases e
  exact ⟨⟨g, s, rfl, h1, h2⟩, hb, hr⟩

/-- The first loop: the merged trace. -/
def findBlock (n : Nat) : Code → Option Code
  | .block m c => if m = n then some (.block m c) else findBlock n c
  | .seq a b => match findBlock n a with
    | some c => some c
    | none => findBlock n b
  | .cond _ a b => match findBlock n a with
    | some c => some c
    | none => findBlock n b
  | .loop c => findBlock n c
  | .scope c => findBlock n c
  | _ => none
noncomputable def mergesL1 : Code := ((Try.f3.body.bind (findBlock 0)).getD .skip)
set_option maxRecDepth 1000000 in
set_option maxHeartbeats 8000000 in
theorem merges_loop1 (x1 x2 M : List (Int × Int)) (n1 n2 c7 c8 : Nat) (a7 a8 : Option Addr) (s0 s1 s2 s5 s6 u16 u17 u18 u19 u20 u21 u22 u23 u24 u25 u26 u27 u28 u29 u30 u31 u32 u33 u34 u35 u36 u37 u38 u39 u40 u41 u42 u43 u44 u45 u46 u47 u48 u49 u50 u51 u52 u53 u54 u55 u56 u57 u58 u59 u60 u61 u62 u63 u64 u65 u66 u67 u68 u69 u70 u71 u72 u73 u74 u75 u76 u77 u78 u79 u80 u81 u82 u83 u84 u85 u86 u87 u88 u89 u90 u91 u92 u93 u94 u95 u96 u97 u98 u99 u100 u101 u102 u103 u104 u105 u106 u107 u108 u109 u110 u111 u112 u113 u114 u115 u116 u117 u118 u119 u120 u121 u122 u123 u124 u125 u126 u127 u128 u129 u130 u131 u132 u133 u134 u135 u136 u137 u138 u139 u140 u141 u142 u143 u144 u145 u146 u147 u148 u149 u150 u151 u152 u153 u154 u155 u156 u157 u158 u159 u160 u161 u162 u163 u164 u165 u166 u167 u168 u169 u170 u171 u172 u173 u174 u175 u176 u177 u178 u179 : Value) (W6 : World) (ln1 : n1 ≤ 30) (ln2 : n2 ≤ 30)
    (E7 : Hid (∀ j, j < n1 → ∃ b off, a7 = some ⟨b, off, none⟩ ∧ W6.cell? ⟨b, off + j * 2, none⟩ = some (.int .i64 (atL x1 j)) ∧ W6.cell? ⟨b, off + j * 2 + 1, none⟩ = some (.int .i64 (szL x1 j))))
    (E8 : Hid (∀ j, j < n2 → ∃ b off, a8 = some ⟨b, off, none⟩ ∧ W6.cell? ⟨b, off + j * 2, none⟩ = some (.int .i64 (atL x2 j)) ∧ W6.cell? ⟨b, off + j * 2 + 1, none⟩ = some (.int .i64 (szL x2 j))))
    (L1 : Hid (x1.length = n1)) (L2 : Hid (x2.length = n2)) (HM : Hid (x1.merge x2 before = M)) (J K' : Act → World → Prop) (Q' : Exit → Act → World → Prop)
    (h1J : ∀ a' w', (∃ u9 u11 u12 u16 u17 u18 u19 u20 u21 u22 u23 u24 u25 u26 u27 u28 u29 u30 u31 u32 u33 u34 u35 u36 u37 u38 u39 u40 u41 u42 u43 u44 u45 u46 u47 u48 u49 u50 u51 u52 u53 u54 u55 u56 u57 u58 u59 u60 u61 u62 u63 u64 u65 u66 u67 u68 u69 u70 u71 u72 u73 u74 u75 u76 u77 u78 u79 u80 u81 u82 u83 u84 u85 u86 u87 u88 u89 u90 u91 u92 u93 u94 u95 u96 u97 u98 u99 u100 u101 u102 u103 u104 u105 u106 u107 u108 u109 u110 u111 u112 u113 u114 u115 u116 u117 u118 u119 u120 u121 u122 u123 u124 u125 u126 u127 u128 u129 u130 u131 u132 u133 u134 u135 u136 u137 u138 u139 u140 u141 u142 u143 u144 u145 u146 u147 u148 u149 u150 u151 u152 u153 u154 u155 u156 u157 u158 u159 u160 u161 u162 u163 u164 u165 u166 u167 u168 u169 u170 u171 u172 u173 u174 u175 u176 u177 u178 u179 : Value, (Hid (RowAt w' u9 M) ∧ Hid (Keep W6 w')) ∧ a' = ⟨#[s0, s1, s2, undef, .bool false, s5, s6, .slice a7 n1 c7, .slice a8 n2 c8, u9, .slice none 0 0, u11, u12, undef, undef, undef, u16, u17, u18, u19, u20, u21, u22, u23, u24, u25, u26, u27, u28, u29, u30, u31, u32, u33, u34, u35, u36, u37, u38, u39, u40, u41, u42, u43, u44, u45, u46, u47, u48, u49, u50, u51, u52, u53, u54, u55, u56, u57, u58, u59, u60, u61, u62, u63, u64, u65, u66, u67, u68, u69, u70, u71, u72, u73, u74, u75, u76, u77, u78, u79, u80, u81, u82, u83, u84, u85, u86, u87, u88, u89, u90, u91, u92, u93, u94, u95, u96, u97, u98, u99, u100, u101, u102, u103, u104, u105, u106, u107, u108, u109, u110, u111, u112, u113, u114, u115, u116, u117, u118, u119, u120, u121, u122, u123, u124, u125, u126, u127, u128, u129, u130, u131, u132, u133, u134, u135, u136, u137, u138, u139, u140, u141, u142, u143, u144, u145, u146, u147, u148, u149, u150, u151, u152, u153, u154, u155, u156, u157, u158, u159, u160, u161, u162, u163, u164, u165, u166, u167, u168, u169, u170, u171, u172, u173, u174, u175, u176, u177, u178, u179], []⟩) → J a' w')
    (h2J : ∀ a' w', Met J a' w' → K' a' w') :
    Code.wp Try.prog mergesL1 (Exit.then K' Q') ⟨#[s0, s1, s2, undef, .bool false, s5, s6, .slice a7 n1 c7, .slice a8 n2 c8, .slice none 0 0, .slice none 0 0, .int .i64 0, .int .i64 0, undef, undef, undef, u16, u17, u18, u19, u20, u21, u22, u23, u24, u25, u26, u27, u28, u29, u30, u31, u32, u33, u34, u35, u36, u37, u38, u39, u40, u41, u42, u43, u44, u45, u46, u47, u48, u49, u50, u51, u52, u53, u54, u55, u56, u57, u58, u59, u60, u61, u62, u63, u64, u65, u66, u67, u68, u69, u70, u71, u72, u73, u74, u75, u76, u77, u78, u79, u80, u81, u82, u83, u84, u85, u86, u87, u88, u89, u90, u91, u92, u93, u94, u95, u96, u97, u98, u99, u100, u101, u102, u103, u104, u105, u106, u107, u108, u109, u110, u111, u112, u113, u114, u115, u116, u117, u118, u119, u120, u121, u122, u123, u124, u125, u126, u127, u128, u129, u130, u131, u132, u133, u134, u135, u136, u137, u138, u139, u140, u141, u142, u143, u144, u145, u146, u147, u148, u149, u150, u151, u152, u153, u154, u155, u156, u157, u158, u159, u160, u161, u162, u163, u164, u165, u166, u167, u168, u169, u170, u171, u172, u173, u174, u175, u176, u177, u178, u179], []⟩ W6 := by
  conv => arg 2; whnf
  obtain ⟨i0, hi0, hz0, hz1, hz2⟩ := info_parts infoArrival
  skip
  go_wp2
  go_loopw [9, 11, 12] (fun s9 s11 s12 wr => ∃ (i j : Nat) (out : List (Int × Int)), i ≤ n1 ∧ j ≤ n2 ∧ s11 = .int .i64 (i : Int) ∧ s12 = .int .i64 (j : Int) ∧ Hid (wr.ownsRow W6.heap.size 35 2 s9 (i + j) (cellsL out) ∧ Keep W6 wr) ∧ Hid (out ++ (x1.drop i).merge (x2.drop j) before = M)) (fun _ i j _ => (n1 - (intOf i).toNat) + (n2 - (intOf j).toNat))
  case atStart => exact ⟨0, 0, [], by omega, by omega, rfl, rfl, Lib.hid ⟨World.ownsRow_nil _ _ _ _, Keep.refl _⟩, Lib.hid HM.out⟩
  case round =>
    obtain ⟨i, j, out, hi, hj, rfl, rfl, HR, HO⟩ := hrel
    by_cases h1 : i < n1
    · obtain ⟨b7, o7, rfl, c0, c1⟩ := E7.out i h1
      have c0 := HR.out.2.some c0
      have c1 := HR.out.2.some c1
      have h1' : (i : Int) < (n1 : Int) := by omega
      obtain ⟨p, hp⟩ : ∃ p, atL x1 i = p := ⟨_, rfl⟩
      obtain ⟨q, hq⟩ : ∃ q, szL x1 i = q := ⟨_, rfl⟩
      rw [hp] at c0
      rw [hq] at c1
      by_cases h2 : j < n2
      · obtain ⟨b8, o8, rfl, e0, e1⟩ := E8.out j h2
        have e0 := HR.out.2.some e0
        have e1 := HR.out.2.some e1
        have h2' : (j : Int) < (n2 : Int) := by omega
        have h2e : ((j : Int) == (n2 : Int)) = false := by simp; omega
        obtain ⟨pp, hpp⟩ : ∃ p, atL x2 j = p := ⟨_, rfl⟩
        obtain ⟨qq, hqq⟩ : ∃ q, szL x2 j = q := ⟨_, rfl⟩
        rw [hpp] at e0
        rw [hqq] at e1
        by_cases h3 : p ≤ pp
        · have HS : Hid (out ++ ([(p, q)] ++ (x1.drop (i + 1)).merge (x2.drop j) before) = M) := Lib.hid (by rw [← HO.out, merge_x (i := i) (j := j) (by rw [L1.out]; exact h1) (Or.inr (by rw [hp, hpp]; exact h3)), hp, hq]; rfl)
          clear hp hq hpp hqq
          go_upto_region 10 with fail
          refine region_lin (W0 := wr) (listF [fun v ww => v = .int .i64 (j : Int), fun v ww => v = .slice (some ⟨b8, o8, none⟩) n2 c8, fun v ww => v = .int .i64 (n2 : Int), fun v ww => v = .bool false, fun v ww => v = .bool false, fun v ww => v = .int .i64 (i : Int), fun v ww => v = .slice (some ⟨b7, o7, none⟩) n1 c7, fun v ww => v = .int .i64 (n1 : Int), fun v ww => v = .bool true, fun v ww => v = .bool true, fun v ww => v = .slice (some ⟨b7, o7, none⟩) n1 c7, fun v ww => v = .int .i64 (i : Int), fun v ww => v = .pointer (some ⟨b7, o7 + i * 2, none⟩), fun v ww => v = .pointer (some ⟨b7, o7 + i * 2, none⟩), fun v ww => v = .int .i64 p, fun v ww => v = .slice (some ⟨b8, o8, none⟩) n2 c8, fun v ww => v = .int .i64 (j : Int), fun v ww => v = .pointer (some ⟨b8, o8 + j * 2, none⟩), fun v ww => v = .pointer (some ⟨b8, o8 + j * 2, none⟩), fun v ww => v = .int .i64 pp, fun v ww => v = .bool true, fun v ww => v = .bool true, fun v ww => v = .bool true]) (listF_stable _ ⟨fun _ _ _ _ h => h, fun _ _ _ _ h => h, fun _ _ _ _ h => h, fun _ _ _ _ h => h, fun _ _ _ _ h => h, fun _ _ _ _ h => h, fun _ _ _ _ h => h, fun _ _ _ _ h => h, fun _ _ _ _ h => h, fun _ _ _ _ h => h, fun _ _ _ _ h => h, fun _ _ _ _ h => h, fun _ _ _ _ h => h, fun _ _ _ _ h => h, fun _ _ _ _ h => h, fun _ _ _ _ h => h, fun _ _ _ _ h => h, fun _ _ _ _ h => h, fun _ _ _ _ h => h, fun _ _ _ _ h => h, fun _ _ _ _ h => h, fun _ _ _ _ h => h, fun _ _ _ _ h => h, trivial⟩) (by kernel_rfl) (by kernel_rfl) (by kernel_rfl) (by kernel_rfl) (Keep.refl _) ?done10 ?steps10
          case done10 =>
            intro T10 wz10 hJ
            obtain ⟨xv0, t0, f0⟩ := hJ.fact 0 84 (by decide) (by kernel_rfl)
            obtain rfl : xv0 = .int .i64 (j : Int) := f0
            obtain ⟨xv1, t1, f1⟩ := hJ.fact 1 85 (by decide) (by kernel_rfl)
            obtain rfl : xv1 = .slice (some ⟨b8, o8, none⟩) n2 c8 := f1
            obtain ⟨xv2, t2, f2⟩ := hJ.fact 2 86 (by decide) (by kernel_rfl)
            obtain rfl : xv2 = .int .i64 (n2 : Int) := f2
            obtain ⟨xv3, t3, f3⟩ := hJ.fact 3 87 (by decide) (by kernel_rfl)
            obtain rfl : xv3 = .bool false := f3
            obtain ⟨xv4, t4, f4⟩ := hJ.fact 4 88 (by decide) (by kernel_rfl)
            obtain rfl : xv4 = .bool false := f4
            obtain ⟨xv5, t5, f5⟩ := hJ.fact 5 89 (by decide) (by kernel_rfl)
            obtain rfl : xv5 = .int .i64 (i : Int) := f5
            obtain ⟨xv6, t6, f6⟩ := hJ.fact 6 90 (by decide) (by kernel_rfl)
            obtain rfl : xv6 = .slice (some ⟨b7, o7, none⟩) n1 c7 := f6
            obtain ⟨xv7, t7, f7⟩ := hJ.fact 7 91 (by decide) (by kernel_rfl)
            obtain rfl : xv7 = .int .i64 (n1 : Int) := f7
            obtain ⟨xv8, t8, f8⟩ := hJ.fact 8 92 (by decide) (by kernel_rfl)
            obtain rfl : xv8 = .bool true := f8
            obtain ⟨xv9, t9, f9⟩ := hJ.fact 9 93 (by decide) (by kernel_rfl)
            obtain rfl : xv9 = .bool true := f9
            obtain ⟨xv10, t10, f10⟩ := hJ.fact 10 94 (by decide) (by kernel_rfl)
            obtain rfl : xv10 = .slice (some ⟨b7, o7, none⟩) n1 c7 := f10
            obtain ⟨xv11, t11, f11⟩ := hJ.fact 11 95 (by decide) (by kernel_rfl)
            obtain rfl : xv11 = .int .i64 (i : Int) := f11
            obtain ⟨xv12, t12, f12⟩ := hJ.fact 12 96 (by decide) (by kernel_rfl)
            obtain rfl : xv12 = .pointer (some ⟨b7, o7 + i * 2, none⟩) := f12
            obtain ⟨xv13, t13, f13⟩ := hJ.fact 13 97 (by decide) (by kernel_rfl)
            obtain rfl : xv13 = .pointer (some ⟨b7, o7 + i * 2, none⟩) := f13
            obtain ⟨xv14, t14, f14⟩ := hJ.fact 14 98 (by decide) (by kernel_rfl)
            obtain rfl : xv14 = .int .i64 p := f14
            obtain ⟨xv15, t15, f15⟩ := hJ.fact 15 99 (by decide) (by kernel_rfl)
            obtain rfl : xv15 = .slice (some ⟨b8, o8, none⟩) n2 c8 := f15
            obtain ⟨xv16, t16, f16⟩ := hJ.fact 16 100 (by decide) (by kernel_rfl)
            obtain rfl : xv16 = .int .i64 (j : Int) := f16
            obtain ⟨xv17, t17, f17⟩ := hJ.fact 17 101 (by decide) (by kernel_rfl)
            obtain rfl : xv17 = .pointer (some ⟨b8, o8 + j * 2, none⟩) := f17
            obtain ⟨xv18, t18, f18⟩ := hJ.fact 18 102 (by decide) (by kernel_rfl)
            obtain rfl : xv18 = .pointer (some ⟨b8, o8 + j * 2, none⟩) := f18
            obtain ⟨xv19, t19, f19⟩ := hJ.fact 19 103 (by decide) (by kernel_rfl)
            obtain rfl : xv19 = .int .i64 pp := f19
            obtain ⟨xv20, t20, f20⟩ := hJ.fact 20 104 (by decide) (by kernel_rfl)
            obtain rfl : xv20 = .bool true := f20
            obtain ⟨xv21, t21, f21⟩ := hJ.fact 21 105 (by decide) (by kernel_rfl)
            obtain rfl : xv21 = .bool true := f21
            obtain ⟨xv22, t22, f22⟩ := hJ.fact 22 106 (by decide) (by kernel_rfl)
            obtain rfl : xv22 = .bool true := f22
            have hfr := hJ.frame [(84, .int .i64 (j : Int)), (85, .slice (some ⟨b8, o8, none⟩) n2 c8), (86, .int .i64 (n2 : Int)), (87, .bool false), (88, .bool false), (89, .int .i64 (i : Int)), (90, .slice (some ⟨b7, o7, none⟩) n1 c7), (91, .int .i64 (n1 : Int)), (92, .bool true), (93, .bool true), (94, .slice (some ⟨b7, o7, none⟩) n1 c7), (95, .int .i64 (i : Int)), (96, .pointer (some ⟨b7, o7 + i * 2, none⟩)), (97, .pointer (some ⟨b7, o7 + i * 2, none⟩)), (98, .int .i64 p), (99, .slice (some ⟨b8, o8, none⟩) n2 c8), (100, .int .i64 (j : Int)), (101, .pointer (some ⟨b8, o8 + j * 2, none⟩)), (102, .pointer (some ⟨b8, o8 + j * 2, none⟩)), (103, .int .i64 pp), (104, .bool true), (105, .bool true), (106, .bool true)] (by simp [t0, t1, t2, t3, t4, t5, t6, t7, t8, t9, t10, t11, t12, t13, t14, t15, t16, t17, t18, t19, t20, t21, t22]) (by kernel_rfl)
            have G := hJ.keep
            clear hJ t0 t1 t2 t3 t4 t5 t6 t7 t8 t9 t10 t11 t12 t13 t14 t15 t16 t17 t18 t19 t20 t21 t22
            rw [hfr]
            clear hfr T10
            simp only [List.foldl_cons, List.foldl_nil, List.setIfInBounds_toArray, List.set_cons_zero, List.set_cons_succ]
            have HG := Lib.hid G
            have c0 := G.some c0
            have c1 := G.some c1
            clear G
            go_wp2_with (at_builtin; refine wpList_append_lies _ rfl _ _ 32 rfl W6.heap.size 35 i0 (.agg #[.int .i64 0, .int .i64 0]) 2 16 Try.underlying32 hi0 hz0 hz1 hz2 rfl (by decide) _ _ _ rfl ((ownsKeep HR.out.1 HG.out).alloc _) ⟨wz10.heap.size, 0, none⟩ 1 1 [.int .i64 p, .int .i64 q] rfl rfl (cell_two_new _ _ _ _) (by intro u hu; simp at hu; rcases hu with rfl | rfl <;> rfl) (by omega) (by unfold maxLen; omega) (by omega) (by have := (HR.out.2.trans HG.out).size; simp; omega) _ rfl ?_; intro g cap w3 hown3 hgrow3 _ _)
            go_roundw
            case rel =>
              refine ⟨i + 1, j, out ++ [(p, q)], by omega, by omega, by go_num, by go_num, Lib.hid ⟨?_, ((HR.out.2.trans HG.out).alloc _).byRow hgrow3 (fun k hk => ((ownsKeep HR.out.1 HG.out).lt k hk).1)⟩, Lib.hid (by rw [List.append_assoc]; exact HS.out)⟩
              rw [cellsL_append]
              have e : i + j + 1 = (i + 1) + j := by omega
              rw [← e]
              exact hown3
            case measure => simp [intOf]; omega
          case steps10 =>
            refine LinSteps.cons (k := 0) ?_ (LinSteps.cons (k := 1) ?_ (LinSteps.cons (k := 2) ?_ (LinSteps.cons (k := 3) ?_ (LinSteps.cons (k := 4) ?_ (LinSteps.cons (k := 5) ?_ (LinSteps.cons (k := 6) ?_ (LinSteps.cons (k := 7) ?_ (LinSteps.cons (k := 8) ?_ (LinSteps.cons (k := 9) ?_ (LinSteps.cons (k := 10) ?_ (LinSteps.cons (k := 11) ?_ (LinSteps.cons (k := 12) ?_ (LinSteps.cons (k := 13) ?_ (LinSteps.cons (k := 14) ?_ (LinSteps.cons (k := 15) ?_ (LinSteps.cons (k := 16) ?_ (LinSteps.cons (k := 17) ?_ (LinSteps.cons (k := 18) ?_ (LinSteps.cons (k := 19) ?_ (LinSteps.cons (k := 20) ?_ (LinSteps.cons (k := 21) ?_ (LinSteps.cons (k := 22) ?_ (LinSteps.nil)))))))))))))))))))))))
            · -- 0
              refine LinStep.plain rfl ?_
              intro QQ bb T ww hn hJ hd K HK
              have s12 := (hJ.oldSlot 12 (by kernel_rfl))
              simp only [List.getElem?_toArray, List.getElem?_cons_zero, List.getElem?_cons_succ] at s12
              have G := hJ.keep
              clear hJ hd hn
              go_simp
              exact HK.out _ _ (Keep.refl _) rfl
            · -- 1
              refine LinStep.plain rfl ?_
              intro QQ bb T ww hn hJ hd K HK
              have s8 := (hJ.oldSlot 8 (by kernel_rfl))
              simp only [List.getElem?_toArray, List.getElem?_cons_zero, List.getElem?_cons_succ] at s8
              have G := hJ.keep
              clear hJ hd hn
              go_simp
              exact HK.out _ _ (Keep.refl _) rfl
            · -- 2
              refine LinStep.plain rfl ?_
              intro QQ bb T ww hn hJ hd K HK
              obtain ⟨xv1, t1, f1⟩ := hJ.dep hd 1 85 (by kernel_rfl) (by kernel_rfl)
              obtain rfl : xv1 = .slice (some ⟨b8, o8, none⟩) n2 c8 := f1
              have G := hJ.keep
              clear hJ hd hn
              go_simp
              exact HK.out _ _ (Keep.refl _) rfl
            · -- 3
              refine LinStep.plain rfl ?_
              intro QQ bb T ww hn hJ hd K HK
              obtain ⟨xv0, t0, f0⟩ := hJ.dep hd 0 84 (by kernel_rfl) (by kernel_rfl)
              obtain rfl : xv0 = .int .i64 (j : Int) := f0
              obtain ⟨xv2, t2, f2⟩ := hJ.dep hd 2 86 (by kernel_rfl) (by kernel_rfl)
              obtain rfl : xv2 = .int .i64 (n2 : Int) := f2
              have G := hJ.keep
              clear hJ hd hn
              go_simp
              exact HK.out _ _ (Keep.refl _) rfl
            · -- 4
              refine LinStep.plain rfl ?_
              intro QQ bb T ww hn hJ hd K HK
              obtain ⟨xv3, t3, f3⟩ := hJ.dep hd 3 87 (by kernel_rfl) (by kernel_rfl)
              obtain rfl : xv3 = .bool false := f3
              have G := hJ.keep
              clear hJ hd hn
              go_simp
              exact HK.out _ _ (Keep.refl _) rfl
            · -- 5
              refine LinStep.guarded 4 88 false rfl (by kernel_rfl) (by kernel_rfl) (fun _ _ h => h) ?_
              intro QQ bb T ww hn hJ hd K HK
              have s11 := (hJ.oldSlot 11 (by kernel_rfl))
              simp only [List.getElem?_toArray, List.getElem?_cons_zero, List.getElem?_cons_succ] at s11
              have G := hJ.keep
              clear hJ hd hn
              go_simp
              exact HK.out _ _ (Keep.refl _) rfl
            · -- 6
              refine LinStep.guarded 4 88 false rfl (by kernel_rfl) (by kernel_rfl) (fun _ _ h => h) ?_
              intro QQ bb T ww hn hJ hd K HK
              have s7 := (hJ.oldSlot 7 (by kernel_rfl))
              simp only [List.getElem?_toArray, List.getElem?_cons_zero, List.getElem?_cons_succ] at s7
              have G := hJ.keep
              clear hJ hd hn
              go_simp
              exact HK.out _ _ (Keep.refl _) rfl
            · -- 7
              refine LinStep.guarded 4 88 false rfl (by kernel_rfl) (by kernel_rfl) (fun _ _ h => h) ?_
              intro QQ bb T ww hn hJ hd K HK
              obtain ⟨xv6, t6, f6⟩ := hJ.dep hd 6 90 (by kernel_rfl) (by kernel_rfl)
              obtain rfl : xv6 = .slice (some ⟨b7, o7, none⟩) n1 c7 := f6
              have G := hJ.keep
              clear hJ hd hn
              go_simp
              exact HK.out _ _ (Keep.refl _) rfl
            · -- 8
              refine LinStep.guarded 4 88 false rfl (by kernel_rfl) (by kernel_rfl) (fun _ _ h => h) ?_
              intro QQ bb T ww hn hJ hd K HK
              obtain ⟨xv5, t5, f5⟩ := hJ.dep hd 5 89 (by kernel_rfl) (by kernel_rfl)
              obtain rfl : xv5 = .int .i64 (i : Int) := f5
              obtain ⟨xv7, t7, f7⟩ := hJ.dep hd 7 91 (by kernel_rfl) (by kernel_rfl)
              obtain rfl : xv7 = .int .i64 (n1 : Int) := f7
              have G := hJ.keep
              clear hJ hd hn
              go_simp
              exact HK.out _ _ (Keep.refl _) rfl
            · -- 9
              refine LinStep.guarded 4 88 false rfl (by kernel_rfl) (by kernel_rfl) (fun _ _ h => h) ?_
              intro QQ bb T ww hn hJ hd K HK
              obtain ⟨xv8, t8, f8⟩ := hJ.dep hd 8 92 (by kernel_rfl) (by kernel_rfl)
              obtain rfl : xv8 = .bool true := f8
              have G := hJ.keep
              clear hJ hd hn
              go_simp
              exact HK.out _ _ (Keep.refl _) rfl
            · -- 10
              refine LinStep.guarded 9 93 true rfl (by kernel_rfl) (by kernel_rfl) (fun _ _ h => h) ?_
              intro QQ bb T ww hn hJ hd K HK
              have s7 := (hJ.oldSlot 7 (by kernel_rfl))
              simp only [List.getElem?_toArray, List.getElem?_cons_zero, List.getElem?_cons_succ] at s7
              have G := hJ.keep
              clear hJ hd hn
              go_simp
              exact HK.out _ _ (Keep.refl _) rfl
            · -- 11
              refine LinStep.guarded 9 93 true rfl (by kernel_rfl) (by kernel_rfl) (fun _ _ h => h) ?_
              intro QQ bb T ww hn hJ hd K HK
              have s11 := (hJ.oldSlot 11 (by kernel_rfl))
              simp only [List.getElem?_toArray, List.getElem?_cons_zero, List.getElem?_cons_succ] at s11
              have G := hJ.keep
              clear hJ hd hn
              go_simp
              exact HK.out _ _ (Keep.refl _) rfl
            · -- 12
              refine LinStep.guarded 9 93 true rfl (by kernel_rfl) (by kernel_rfl) (fun _ _ h => h) ?_
              intro QQ bb T ww hn hJ hd K HK
              obtain ⟨xv10, t10, f10⟩ := hJ.dep hd 10 94 (by kernel_rfl) (by kernel_rfl)
              obtain rfl : xv10 = .slice (some ⟨b7, o7, none⟩) n1 c7 := f10
              obtain ⟨xv11, t11, f11⟩ := hJ.dep hd 11 95 (by kernel_rfl) (by kernel_rfl)
              obtain rfl : xv11 = .int .i64 (i : Int) := f11
              have G := hJ.keep
              clear hJ hd hn
              go_wp2
              exact HK.out _ _ (Keep.refl _) rfl
            · -- 13
              refine LinStep.guarded 9 93 true rfl (by kernel_rfl) (by kernel_rfl) (fun _ _ h => h) ?_
              intro QQ bb T ww hn hJ hd K HK
              obtain ⟨xv12, t12, f12⟩ := hJ.dep hd 12 96 (by kernel_rfl) (by kernel_rfl)
              obtain rfl : xv12 = .pointer (some ⟨b7, o7 + i * 2, none⟩) := f12
              have G := hJ.keep
              clear hJ hd hn
              go_simp
              exact HK.out _ _ (Keep.refl _) rfl
            · -- 14
              refine LinStep.guarded 9 93 true rfl (by kernel_rfl) (by kernel_rfl) (fun _ _ h => h) ?_
              intro QQ bb T ww hn hJ hd K HK
              obtain ⟨xv13, t13, f13⟩ := hJ.dep hd 13 97 (by kernel_rfl) (by kernel_rfl)
              obtain rfl : xv13 = .pointer (some ⟨b7, o7 + i * 2, none⟩) := f13
              have G := hJ.keep
              clear hJ hd hn
              have k0 := G.some c0
              go_simp
              exact HK.out _ _ (Keep.refl _) rfl
            · -- 15
              refine LinStep.guarded 9 93 true rfl (by kernel_rfl) (by kernel_rfl) (fun _ _ h => h) ?_
              intro QQ bb T ww hn hJ hd K HK
              have s8 := (hJ.oldSlot 8 (by kernel_rfl))
              simp only [List.getElem?_toArray, List.getElem?_cons_zero, List.getElem?_cons_succ] at s8
              have G := hJ.keep
              clear hJ hd hn
              go_simp
              exact HK.out _ _ (Keep.refl _) rfl
            · -- 16
              refine LinStep.guarded 9 93 true rfl (by kernel_rfl) (by kernel_rfl) (fun _ _ h => h) ?_
              intro QQ bb T ww hn hJ hd K HK
              have s12 := (hJ.oldSlot 12 (by kernel_rfl))
              simp only [List.getElem?_toArray, List.getElem?_cons_zero, List.getElem?_cons_succ] at s12
              have G := hJ.keep
              clear hJ hd hn
              go_simp
              exact HK.out _ _ (Keep.refl _) rfl
            · -- 17
              refine LinStep.guarded 9 93 true rfl (by kernel_rfl) (by kernel_rfl) (fun _ _ h => h) ?_
              intro QQ bb T ww hn hJ hd K HK
              obtain ⟨xv15, t15, f15⟩ := hJ.dep hd 15 99 (by kernel_rfl) (by kernel_rfl)
              obtain rfl : xv15 = .slice (some ⟨b8, o8, none⟩) n2 c8 := f15
              obtain ⟨xv16, t16, f16⟩ := hJ.dep hd 16 100 (by kernel_rfl) (by kernel_rfl)
              obtain rfl : xv16 = .int .i64 (j : Int) := f16
              have G := hJ.keep
              clear hJ hd hn
              go_wp2
              exact HK.out _ _ (Keep.refl _) rfl
            · -- 18
              refine LinStep.guarded 9 93 true rfl (by kernel_rfl) (by kernel_rfl) (fun _ _ h => h) ?_
              intro QQ bb T ww hn hJ hd K HK
              obtain ⟨xv17, t17, f17⟩ := hJ.dep hd 17 101 (by kernel_rfl) (by kernel_rfl)
              obtain rfl : xv17 = .pointer (some ⟨b8, o8 + j * 2, none⟩) := f17
              have G := hJ.keep
              clear hJ hd hn
              go_simp
              exact HK.out _ _ (Keep.refl _) rfl
            · -- 19
              refine LinStep.guarded 9 93 true rfl (by kernel_rfl) (by kernel_rfl) (fun _ _ h => h) ?_
              intro QQ bb T ww hn hJ hd K HK
              obtain ⟨xv18, t18, f18⟩ := hJ.dep hd 18 102 (by kernel_rfl) (by kernel_rfl)
              obtain rfl : xv18 = .pointer (some ⟨b8, o8 + j * 2, none⟩) := f18
              have G := hJ.keep
              clear hJ hd hn
              have k0 := G.some e0
              go_simp
              exact HK.out _ _ (Keep.refl _) rfl
            · -- 20
              refine LinStep.guarded 9 93 true rfl (by kernel_rfl) (by kernel_rfl) (fun _ _ h => h) ?_
              intro QQ bb T ww hn hJ hd K HK
              obtain ⟨xv14, t14, f14⟩ := hJ.dep hd 14 98 (by kernel_rfl) (by kernel_rfl)
              obtain rfl : xv14 = .int .i64 p := f14
              obtain ⟨xv19, t19, f19⟩ := hJ.dep hd 19 103 (by kernel_rfl) (by kernel_rfl)
              obtain rfl : xv19 = .int .i64 pp := f19
              have G := hJ.keep
              clear hJ hd hn
              go_simp
              exact HK.out _ _ (Keep.refl _) rfl
            · -- 21
              refine LinStep.guarded 4 88 false rfl (by kernel_rfl) (by kernel_rfl) (fun _ _ h => h) ?_
              intro QQ bb T ww hn hJ hd K HK
              obtain ⟨xv9, t9, f9⟩ := hJ.dep hd 9 93 (by kernel_rfl) (by kernel_rfl)
              obtain rfl : xv9 = .bool true := f9
              obtain ⟨xv20, t20, f20⟩ := hJ.dep hd 20 104 (by kernel_rfl) (by kernel_rfl)
              obtain rfl : xv20 = .bool true := f20
              have G := hJ.keep
              clear hJ hd hn
              go_simp
              exact HK.out _ _ (Keep.refl _) rfl
            · -- 22
              refine LinStep.plain rfl ?_
              intro QQ bb T ww hn hJ hd K HK
              obtain ⟨xv4, t4, f4⟩ := hJ.dep hd 4 88 (by kernel_rfl) (by kernel_rfl)
              obtain rfl : xv4 = .bool false := f4
              obtain ⟨xv21, t21, f21⟩ := hJ.dep hd 21 105 (by kernel_rfl) (by kernel_rfl)
              obtain rfl : xv21 = .bool true := f21
              have G := hJ.keep
              clear hJ hd hn
              go_simp
              exact HK.out _ _ (Keep.refl _) rfl
        · have h3' : pp < p := by omega
          have HS : Hid (out ++ ([(pp, qq)] ++ (x1.drop i).merge (x2.drop (j + 1)) before) = M) := Lib.hid (by rw [← HO.out, merge_y (i := i) (j := j) (by rw [L2.out]; exact h2) (Or.inr (by rw [hp, hpp]; exact h3)), hpp, hqq]; rfl)
          clear hp hq hpp hqq
          go_upto_region 10 with fail
          refine region_lin (W0 := wr) (listF [fun v ww => v = .int .i64 (j : Int), fun v ww => v = .slice (some ⟨b8, o8, none⟩) n2 c8, fun v ww => v = .int .i64 (n2 : Int), fun v ww => v = .bool false, fun v ww => v = .bool false, fun v ww => v = .int .i64 (i : Int), fun v ww => v = .slice (some ⟨b7, o7, none⟩) n1 c7, fun v ww => v = .int .i64 (n1 : Int), fun v ww => v = .bool true, fun v ww => v = .bool true, fun v ww => v = .slice (some ⟨b7, o7, none⟩) n1 c7, fun v ww => v = .int .i64 (i : Int), fun v ww => v = .pointer (some ⟨b7, o7 + i * 2, none⟩), fun v ww => v = .pointer (some ⟨b7, o7 + i * 2, none⟩), fun v ww => v = .int .i64 p, fun v ww => v = .slice (some ⟨b8, o8, none⟩) n2 c8, fun v ww => v = .int .i64 (j : Int), fun v ww => v = .pointer (some ⟨b8, o8 + j * 2, none⟩), fun v ww => v = .pointer (some ⟨b8, o8 + j * 2, none⟩), fun v ww => v = .int .i64 pp, fun v ww => v = .bool false, fun v ww => v = .bool false, fun v ww => v = .bool false]) (listF_stable _ ⟨fun _ _ _ _ h => h, fun _ _ _ _ h => h, fun _ _ _ _ h => h, fun _ _ _ _ h => h, fun _ _ _ _ h => h, fun _ _ _ _ h => h, fun _ _ _ _ h => h, fun _ _ _ _ h => h, fun _ _ _ _ h => h, fun _ _ _ _ h => h, fun _ _ _ _ h => h, fun _ _ _ _ h => h, fun _ _ _ _ h => h, fun _ _ _ _ h => h, fun _ _ _ _ h => h, fun _ _ _ _ h => h, fun _ _ _ _ h => h, fun _ _ _ _ h => h, fun _ _ _ _ h => h, fun _ _ _ _ h => h, fun _ _ _ _ h => h, fun _ _ _ _ h => h, fun _ _ _ _ h => h, trivial⟩) (by kernel_rfl) (by kernel_rfl) (by kernel_rfl) (by kernel_rfl) (Keep.refl _) ?done10 ?steps10
          case done10 =>
            intro T10 wz10 hJ
            obtain ⟨xv0, t0, f0⟩ := hJ.fact 0 84 (by decide) (by kernel_rfl)
            obtain rfl : xv0 = .int .i64 (j : Int) := f0
            obtain ⟨xv1, t1, f1⟩ := hJ.fact 1 85 (by decide) (by kernel_rfl)
            obtain rfl : xv1 = .slice (some ⟨b8, o8, none⟩) n2 c8 := f1
            obtain ⟨xv2, t2, f2⟩ := hJ.fact 2 86 (by decide) (by kernel_rfl)
            obtain rfl : xv2 = .int .i64 (n2 : Int) := f2
            obtain ⟨xv3, t3, f3⟩ := hJ.fact 3 87 (by decide) (by kernel_rfl)
            obtain rfl : xv3 = .bool false := f3
            obtain ⟨xv4, t4, f4⟩ := hJ.fact 4 88 (by decide) (by kernel_rfl)
            obtain rfl : xv4 = .bool false := f4
            obtain ⟨xv5, t5, f5⟩ := hJ.fact 5 89 (by decide) (by kernel_rfl)
            obtain rfl : xv5 = .int .i64 (i : Int) := f5
            obtain ⟨xv6, t6, f6⟩ := hJ.fact 6 90 (by decide) (by kernel_rfl)
            obtain rfl : xv6 = .slice (some ⟨b7, o7, none⟩) n1 c7 := f6
            obtain ⟨xv7, t7, f7⟩ := hJ.fact 7 91 (by decide) (by kernel_rfl)
            obtain rfl : xv7 = .int .i64 (n1 : Int) := f7
            obtain ⟨xv8, t8, f8⟩ := hJ.fact 8 92 (by decide) (by kernel_rfl)
            obtain rfl : xv8 = .bool true := f8
            obtain ⟨xv9, t9, f9⟩ := hJ.fact 9 93 (by decide) (by kernel_rfl)
            obtain rfl : xv9 = .bool true := f9
            obtain ⟨xv10, t10, f10⟩ := hJ.fact 10 94 (by decide) (by kernel_rfl)
            obtain rfl : xv10 = .slice (some ⟨b7, o7, none⟩) n1 c7 := f10
            obtain ⟨xv11, t11, f11⟩ := hJ.fact 11 95 (by decide) (by kernel_rfl)
            obtain rfl : xv11 = .int .i64 (i : Int) := f11
            obtain ⟨xv12, t12, f12⟩ := hJ.fact 12 96 (by decide) (by kernel_rfl)
            obtain rfl : xv12 = .pointer (some ⟨b7, o7 + i * 2, none⟩) := f12
            obtain ⟨xv13, t13, f13⟩ := hJ.fact 13 97 (by decide) (by kernel_rfl)
            obtain rfl : xv13 = .pointer (some ⟨b7, o7 + i * 2, none⟩) := f13
            obtain ⟨xv14, t14, f14⟩ := hJ.fact 14 98 (by decide) (by kernel_rfl)
            obtain rfl : xv14 = .int .i64 p := f14
            obtain ⟨xv15, t15, f15⟩ := hJ.fact 15 99 (by decide) (by kernel_rfl)
            obtain rfl : xv15 = .slice (some ⟨b8, o8, none⟩) n2 c8 := f15
            obtain ⟨xv16, t16, f16⟩ := hJ.fact 16 100 (by decide) (by kernel_rfl)
            obtain rfl : xv16 = .int .i64 (j : Int) := f16
            obtain ⟨xv17, t17, f17⟩ := hJ.fact 17 101 (by decide) (by kernel_rfl)
            obtain rfl : xv17 = .pointer (some ⟨b8, o8 + j * 2, none⟩) := f17
            obtain ⟨xv18, t18, f18⟩ := hJ.fact 18 102 (by decide) (by kernel_rfl)
            obtain rfl : xv18 = .pointer (some ⟨b8, o8 + j * 2, none⟩) := f18
            obtain ⟨xv19, t19, f19⟩ := hJ.fact 19 103 (by decide) (by kernel_rfl)
            obtain rfl : xv19 = .int .i64 pp := f19
            obtain ⟨xv20, t20, f20⟩ := hJ.fact 20 104 (by decide) (by kernel_rfl)
            obtain rfl : xv20 = .bool false := f20
            obtain ⟨xv21, t21, f21⟩ := hJ.fact 21 105 (by decide) (by kernel_rfl)
            obtain rfl : xv21 = .bool false := f21
            obtain ⟨xv22, t22, f22⟩ := hJ.fact 22 106 (by decide) (by kernel_rfl)
            obtain rfl : xv22 = .bool false := f22
            have hfr := hJ.frame [(84, .int .i64 (j : Int)), (85, .slice (some ⟨b8, o8, none⟩) n2 c8), (86, .int .i64 (n2 : Int)), (87, .bool false), (88, .bool false), (89, .int .i64 (i : Int)), (90, .slice (some ⟨b7, o7, none⟩) n1 c7), (91, .int .i64 (n1 : Int)), (92, .bool true), (93, .bool true), (94, .slice (some ⟨b7, o7, none⟩) n1 c7), (95, .int .i64 (i : Int)), (96, .pointer (some ⟨b7, o7 + i * 2, none⟩)), (97, .pointer (some ⟨b7, o7 + i * 2, none⟩)), (98, .int .i64 p), (99, .slice (some ⟨b8, o8, none⟩) n2 c8), (100, .int .i64 (j : Int)), (101, .pointer (some ⟨b8, o8 + j * 2, none⟩)), (102, .pointer (some ⟨b8, o8 + j * 2, none⟩)), (103, .int .i64 pp), (104, .bool false), (105, .bool false), (106, .bool false)] (by simp [t0, t1, t2, t3, t4, t5, t6, t7, t8, t9, t10, t11, t12, t13, t14, t15, t16, t17, t18, t19, t20, t21, t22]) (by kernel_rfl)
            have G := hJ.keep
            clear hJ t0 t1 t2 t3 t4 t5 t6 t7 t8 t9 t10 t11 t12 t13 t14 t15 t16 t17 t18 t19 t20 t21 t22
            rw [hfr]
            clear hfr T10
            simp only [List.foldl_cons, List.foldl_nil, List.setIfInBounds_toArray, List.set_cons_zero, List.set_cons_succ]
            have HG := Lib.hid G
            have e0 := G.some e0
            have e1 := G.some e1
            clear G
            go_wp2_with (at_builtin; refine wpList_append_lies _ rfl _ _ 32 rfl W6.heap.size 35 i0 (.agg #[.int .i64 0, .int .i64 0]) 2 16 Try.underlying32 hi0 hz0 hz1 hz2 rfl (by decide) _ _ _ rfl ((ownsKeep HR.out.1 HG.out).alloc _) ⟨wz10.heap.size, 0, none⟩ 1 1 [.int .i64 pp, .int .i64 qq] rfl rfl (cell_two_new _ _ _ _) (by intro u hu; simp at hu; rcases hu with rfl | rfl <;> rfl) (by omega) (by unfold maxLen; omega) (by omega) (by have := (HR.out.2.trans HG.out).size; simp; omega) _ rfl ?_; intro g cap w3 hown3 hgrow3 _ _)
            go_roundw
            case rel =>
              refine ⟨i, j + 1, out ++ [(pp, qq)], by omega, by omega, by go_num, by go_num, Lib.hid ⟨?_, ((HR.out.2.trans HG.out).alloc _).byRow hgrow3 (fun k hk => ((ownsKeep HR.out.1 HG.out).lt k hk).1)⟩, Lib.hid (by rw [List.append_assoc]; exact HS.out)⟩
              rw [cellsL_append]
              have e : i + j + 1 = i + (j + 1) := by omega
              rw [← e]
              exact hown3
            case measure => simp [intOf]; omega
          case steps10 =>
            refine LinSteps.cons (k := 0) ?_ (LinSteps.cons (k := 1) ?_ (LinSteps.cons (k := 2) ?_ (LinSteps.cons (k := 3) ?_ (LinSteps.cons (k := 4) ?_ (LinSteps.cons (k := 5) ?_ (LinSteps.cons (k := 6) ?_ (LinSteps.cons (k := 7) ?_ (LinSteps.cons (k := 8) ?_ (LinSteps.cons (k := 9) ?_ (LinSteps.cons (k := 10) ?_ (LinSteps.cons (k := 11) ?_ (LinSteps.cons (k := 12) ?_ (LinSteps.cons (k := 13) ?_ (LinSteps.cons (k := 14) ?_ (LinSteps.cons (k := 15) ?_ (LinSteps.cons (k := 16) ?_ (LinSteps.cons (k := 17) ?_ (LinSteps.cons (k := 18) ?_ (LinSteps.cons (k := 19) ?_ (LinSteps.cons (k := 20) ?_ (LinSteps.cons (k := 21) ?_ (LinSteps.cons (k := 22) ?_ (LinSteps.nil)))))))))))))))))))))))
            · -- 0
              refine LinStep.plain rfl ?_
              intro QQ bb T ww hn hJ hd K HK
              have s12 := (hJ.oldSlot 12 (by kernel_rfl))
              simp only [List.getElem?_toArray, List.getElem?_cons_zero, List.getElem?_cons_succ] at s12
              have G := hJ.keep
              clear hJ hd hn
              go_simp
              exact HK.out _ _ (Keep.refl _) rfl
            · -- 1
              refine LinStep.plain rfl ?_
              intro QQ bb T ww hn hJ hd K HK
              have s8 := (hJ.oldSlot 8 (by kernel_rfl))
              simp only [List.getElem?_toArray, List.getElem?_cons_zero, List.getElem?_cons_succ] at s8
              have G := hJ.keep
              clear hJ hd hn
              go_simp
              exact HK.out _ _ (Keep.refl _) rfl
            · -- 2
              refine LinStep.plain rfl ?_
              intro QQ bb T ww hn hJ hd K HK
              obtain ⟨xv1, t1, f1⟩ := hJ.dep hd 1 85 (by kernel_rfl) (by kernel_rfl)
              obtain rfl : xv1 = .slice (some ⟨b8, o8, none⟩) n2 c8 := f1
              have G := hJ.keep
              clear hJ hd hn
              go_simp
              exact HK.out _ _ (Keep.refl _) rfl
            · -- 3
              refine LinStep.plain rfl ?_
              intro QQ bb T ww hn hJ hd K HK
              obtain ⟨xv0, t0, f0⟩ := hJ.dep hd 0 84 (by kernel_rfl) (by kernel_rfl)
              obtain rfl : xv0 = .int .i64 (j : Int) := f0
              obtain ⟨xv2, t2, f2⟩ := hJ.dep hd 2 86 (by kernel_rfl) (by kernel_rfl)
              obtain rfl : xv2 = .int .i64 (n2 : Int) := f2
              have G := hJ.keep
              clear hJ hd hn
              go_simp
              exact HK.out _ _ (Keep.refl _) rfl
            · -- 4
              refine LinStep.plain rfl ?_
              intro QQ bb T ww hn hJ hd K HK
              obtain ⟨xv3, t3, f3⟩ := hJ.dep hd 3 87 (by kernel_rfl) (by kernel_rfl)
              obtain rfl : xv3 = .bool false := f3
              have G := hJ.keep
              clear hJ hd hn
              go_simp
              exact HK.out _ _ (Keep.refl _) rfl
            · -- 5
              refine LinStep.guarded 4 88 false rfl (by kernel_rfl) (by kernel_rfl) (fun _ _ h => h) ?_
              intro QQ bb T ww hn hJ hd K HK
              have s11 := (hJ.oldSlot 11 (by kernel_rfl))
              simp only [List.getElem?_toArray, List.getElem?_cons_zero, List.getElem?_cons_succ] at s11
              have G := hJ.keep
              clear hJ hd hn
              go_simp
              exact HK.out _ _ (Keep.refl _) rfl
            · -- 6
              refine LinStep.guarded 4 88 false rfl (by kernel_rfl) (by kernel_rfl) (fun _ _ h => h) ?_
              intro QQ bb T ww hn hJ hd K HK
              have s7 := (hJ.oldSlot 7 (by kernel_rfl))
              simp only [List.getElem?_toArray, List.getElem?_cons_zero, List.getElem?_cons_succ] at s7
              have G := hJ.keep
              clear hJ hd hn
              go_simp
              exact HK.out _ _ (Keep.refl _) rfl
            · -- 7
              refine LinStep.guarded 4 88 false rfl (by kernel_rfl) (by kernel_rfl) (fun _ _ h => h) ?_
              intro QQ bb T ww hn hJ hd K HK
              obtain ⟨xv6, t6, f6⟩ := hJ.dep hd 6 90 (by kernel_rfl) (by kernel_rfl)
              obtain rfl : xv6 = .slice (some ⟨b7, o7, none⟩) n1 c7 := f6
              have G := hJ.keep
              clear hJ hd hn
              go_simp
              exact HK.out _ _ (Keep.refl _) rfl
            · -- 8
              refine LinStep.guarded 4 88 false rfl (by kernel_rfl) (by kernel_rfl) (fun _ _ h => h) ?_
              intro QQ bb T ww hn hJ hd K HK
              obtain ⟨xv5, t5, f5⟩ := hJ.dep hd 5 89 (by kernel_rfl) (by kernel_rfl)
              obtain rfl : xv5 = .int .i64 (i : Int) := f5
              obtain ⟨xv7, t7, f7⟩ := hJ.dep hd 7 91 (by kernel_rfl) (by kernel_rfl)
              obtain rfl : xv7 = .int .i64 (n1 : Int) := f7
              have G := hJ.keep
              clear hJ hd hn
              go_simp
              exact HK.out _ _ (Keep.refl _) rfl
            · -- 9
              refine LinStep.guarded 4 88 false rfl (by kernel_rfl) (by kernel_rfl) (fun _ _ h => h) ?_
              intro QQ bb T ww hn hJ hd K HK
              obtain ⟨xv8, t8, f8⟩ := hJ.dep hd 8 92 (by kernel_rfl) (by kernel_rfl)
              obtain rfl : xv8 = .bool true := f8
              have G := hJ.keep
              clear hJ hd hn
              go_simp
              exact HK.out _ _ (Keep.refl _) rfl
            · -- 10
              refine LinStep.guarded 9 93 true rfl (by kernel_rfl) (by kernel_rfl) (fun _ _ h => h) ?_
              intro QQ bb T ww hn hJ hd K HK
              have s7 := (hJ.oldSlot 7 (by kernel_rfl))
              simp only [List.getElem?_toArray, List.getElem?_cons_zero, List.getElem?_cons_succ] at s7
              have G := hJ.keep
              clear hJ hd hn
              go_simp
              exact HK.out _ _ (Keep.refl _) rfl
            · -- 11
              refine LinStep.guarded 9 93 true rfl (by kernel_rfl) (by kernel_rfl) (fun _ _ h => h) ?_
              intro QQ bb T ww hn hJ hd K HK
              have s11 := (hJ.oldSlot 11 (by kernel_rfl))
              simp only [List.getElem?_toArray, List.getElem?_cons_zero, List.getElem?_cons_succ] at s11
              have G := hJ.keep
              clear hJ hd hn
              go_simp
              exact HK.out _ _ (Keep.refl _) rfl
            · -- 12
              refine LinStep.guarded 9 93 true rfl (by kernel_rfl) (by kernel_rfl) (fun _ _ h => h) ?_
              intro QQ bb T ww hn hJ hd K HK
              obtain ⟨xv10, t10, f10⟩ := hJ.dep hd 10 94 (by kernel_rfl) (by kernel_rfl)
              obtain rfl : xv10 = .slice (some ⟨b7, o7, none⟩) n1 c7 := f10
              obtain ⟨xv11, t11, f11⟩ := hJ.dep hd 11 95 (by kernel_rfl) (by kernel_rfl)
              obtain rfl : xv11 = .int .i64 (i : Int) := f11
              have G := hJ.keep
              clear hJ hd hn
              go_wp2
              exact HK.out _ _ (Keep.refl _) rfl
            · -- 13
              refine LinStep.guarded 9 93 true rfl (by kernel_rfl) (by kernel_rfl) (fun _ _ h => h) ?_
              intro QQ bb T ww hn hJ hd K HK
              obtain ⟨xv12, t12, f12⟩ := hJ.dep hd 12 96 (by kernel_rfl) (by kernel_rfl)
              obtain rfl : xv12 = .pointer (some ⟨b7, o7 + i * 2, none⟩) := f12
              have G := hJ.keep
              clear hJ hd hn
              go_simp
              exact HK.out _ _ (Keep.refl _) rfl
            · -- 14
              refine LinStep.guarded 9 93 true rfl (by kernel_rfl) (by kernel_rfl) (fun _ _ h => h) ?_
              intro QQ bb T ww hn hJ hd K HK
              obtain ⟨xv13, t13, f13⟩ := hJ.dep hd 13 97 (by kernel_rfl) (by kernel_rfl)
              obtain rfl : xv13 = .pointer (some ⟨b7, o7 + i * 2, none⟩) := f13
              have G := hJ.keep
              clear hJ hd hn
              have k0 := G.some c0
              go_simp
              exact HK.out _ _ (Keep.refl _) rfl
            · -- 15
              refine LinStep.guarded 9 93 true rfl (by kernel_rfl) (by kernel_rfl) (fun _ _ h => h) ?_
              intro QQ bb T ww hn hJ hd K HK
              have s8 := (hJ.oldSlot 8 (by kernel_rfl))
              simp only [List.getElem?_toArray, List.getElem?_cons_zero, List.getElem?_cons_succ] at s8
              have G := hJ.keep
              clear hJ hd hn
              go_simp
              exact HK.out _ _ (Keep.refl _) rfl
            · -- 16
              refine LinStep.guarded 9 93 true rfl (by kernel_rfl) (by kernel_rfl) (fun _ _ h => h) ?_
              intro QQ bb T ww hn hJ hd K HK
              have s12 := (hJ.oldSlot 12 (by kernel_rfl))
              simp only [List.getElem?_toArray, List.getElem?_cons_zero, List.getElem?_cons_succ] at s12
              have G := hJ.keep
              clear hJ hd hn
              go_simp
              exact HK.out _ _ (Keep.refl _) rfl
            · -- 17
              refine LinStep.guarded 9 93 true rfl (by kernel_rfl) (by kernel_rfl) (fun _ _ h => h) ?_
              intro QQ bb T ww hn hJ hd K HK
              obtain ⟨xv15, t15, f15⟩ := hJ.dep hd 15 99 (by kernel_rfl) (by kernel_rfl)
              obtain rfl : xv15 = .slice (some ⟨b8, o8, none⟩) n2 c8 := f15
              obtain ⟨xv16, t16, f16⟩ := hJ.dep hd 16 100 (by kernel_rfl) (by kernel_rfl)
              obtain rfl : xv16 = .int .i64 (j : Int) := f16
              have G := hJ.keep
              clear hJ hd hn
              go_wp2
              exact HK.out _ _ (Keep.refl _) rfl
            · -- 18
              refine LinStep.guarded 9 93 true rfl (by kernel_rfl) (by kernel_rfl) (fun _ _ h => h) ?_
              intro QQ bb T ww hn hJ hd K HK
              obtain ⟨xv17, t17, f17⟩ := hJ.dep hd 17 101 (by kernel_rfl) (by kernel_rfl)
              obtain rfl : xv17 = .pointer (some ⟨b8, o8 + j * 2, none⟩) := f17
              have G := hJ.keep
              clear hJ hd hn
              go_simp
              exact HK.out _ _ (Keep.refl _) rfl
            · -- 19
              refine LinStep.guarded 9 93 true rfl (by kernel_rfl) (by kernel_rfl) (fun _ _ h => h) ?_
              intro QQ bb T ww hn hJ hd K HK
              obtain ⟨xv18, t18, f18⟩ := hJ.dep hd 18 102 (by kernel_rfl) (by kernel_rfl)
              obtain rfl : xv18 = .pointer (some ⟨b8, o8 + j * 2, none⟩) := f18
              have G := hJ.keep
              clear hJ hd hn
              have k0 := G.some e0
              go_simp
              exact HK.out _ _ (Keep.refl _) rfl
            · -- 20
              refine LinStep.guarded 9 93 true rfl (by kernel_rfl) (by kernel_rfl) (fun _ _ h => h) ?_
              intro QQ bb T ww hn hJ hd K HK
              obtain ⟨xv14, t14, f14⟩ := hJ.dep hd 14 98 (by kernel_rfl) (by kernel_rfl)
              obtain rfl : xv14 = .int .i64 p := f14
              obtain ⟨xv19, t19, f19⟩ := hJ.dep hd 19 103 (by kernel_rfl) (by kernel_rfl)
              obtain rfl : xv19 = .int .i64 pp := f19
              have G := hJ.keep
              clear hJ hd hn
              go_simp
              exact HK.out _ _ (Keep.refl _) rfl
            · -- 21
              refine LinStep.guarded 4 88 false rfl (by kernel_rfl) (by kernel_rfl) (fun _ _ h => h) ?_
              intro QQ bb T ww hn hJ hd K HK
              obtain ⟨xv9, t9, f9⟩ := hJ.dep hd 9 93 (by kernel_rfl) (by kernel_rfl)
              obtain rfl : xv9 = .bool true := f9
              obtain ⟨xv20, t20, f20⟩ := hJ.dep hd 20 104 (by kernel_rfl) (by kernel_rfl)
              obtain rfl : xv20 = .bool false := f20
              have G := hJ.keep
              clear hJ hd hn
              go_simp
              exact HK.out _ _ (Keep.refl _) rfl
            · -- 22
              refine LinStep.plain rfl ?_
              intro QQ bb T ww hn hJ hd K HK
              obtain ⟨xv4, t4, f4⟩ := hJ.dep hd 4 88 (by kernel_rfl) (by kernel_rfl)
              obtain rfl : xv4 = .bool false := f4
              obtain ⟨xv21, t21, f21⟩ := hJ.dep hd 21 105 (by kernel_rfl) (by kernel_rfl)
              obtain rfl : xv21 = .bool false := f21
              have G := hJ.keep
              clear hJ hd hn
              go_simp
              exact HK.out _ _ (Keep.refl _) rfl
      · obtain rfl : n2 = j := by omega
        have h2e : ((n2 : Int) == (n2 : Int)) = true := by simp
        have HS : Hid (out ++ ([(p, q)] ++ (x1.drop (i + 1)).merge (x2.drop n2) before) = M) := Lib.hid (by rw [← HO.out, merge_x (i := i) (j := n2) (by rw [L1.out]; exact h1) (Or.inl (by rw [L2.out]; omega)), hp, hq]; rfl)
        clear hp hq
        go_upto_region 10 with fail
        refine region_lin (W0 := wr) (listF [fun v ww => v = .int .i64 (n2 : Int), fun v ww => v = .slice a8 n2 c8, fun v ww => v = .int .i64 (n2 : Int), fun v ww => v = .bool true, fun v ww => v = .bool true, fun v ww => v = undef, fun v ww => v = undef, fun v ww => v = undef, fun v ww => v = undef, fun v ww => v = undef, fun v ww => v = undef, fun v ww => v = undef, fun v ww => v = undef, fun v ww => v = undef, fun v ww => v = undef, fun v ww => v = undef, fun v ww => v = undef, fun v ww => v = undef, fun v ww => v = undef, fun v ww => v = undef, fun v ww => v = undef, fun v ww => v = undef, fun v ww => v = .bool true]) (listF_stable _ ⟨fun _ _ _ _ h => h, fun _ _ _ _ h => h, fun _ _ _ _ h => h, fun _ _ _ _ h => h, fun _ _ _ _ h => h, fun _ _ _ _ h => h, fun _ _ _ _ h => h, fun _ _ _ _ h => h, fun _ _ _ _ h => h, fun _ _ _ _ h => h, fun _ _ _ _ h => h, fun _ _ _ _ h => h, fun _ _ _ _ h => h, fun _ _ _ _ h => h, fun _ _ _ _ h => h, fun _ _ _ _ h => h, fun _ _ _ _ h => h, fun _ _ _ _ h => h, fun _ _ _ _ h => h, fun _ _ _ _ h => h, fun _ _ _ _ h => h, fun _ _ _ _ h => h, fun _ _ _ _ h => h, trivial⟩) (by kernel_rfl) (by kernel_rfl) (by kernel_rfl) (by kernel_rfl) (Keep.refl _) ?done10 ?steps10
        case done10 =>
          intro T10 wz10 hJ
          obtain ⟨xv0, t0, f0⟩ := hJ.fact 0 84 (by decide) (by kernel_rfl)
          obtain rfl : xv0 = .int .i64 (n2 : Int) := f0
          obtain ⟨xv1, t1, f1⟩ := hJ.fact 1 85 (by decide) (by kernel_rfl)
          obtain rfl : xv1 = .slice a8 n2 c8 := f1
          obtain ⟨xv2, t2, f2⟩ := hJ.fact 2 86 (by decide) (by kernel_rfl)
          obtain rfl : xv2 = .int .i64 (n2 : Int) := f2
          obtain ⟨xv3, t3, f3⟩ := hJ.fact 3 87 (by decide) (by kernel_rfl)
          obtain rfl : xv3 = .bool true := f3
          obtain ⟨xv4, t4, f4⟩ := hJ.fact 4 88 (by decide) (by kernel_rfl)
          obtain rfl : xv4 = .bool true := f4
          obtain ⟨xv5, t5, f5⟩ := hJ.fact 5 89 (by decide) (by kernel_rfl)
          obtain rfl : undef = xv5 := f5.symm
          obtain ⟨xv6, t6, f6⟩ := hJ.fact 6 90 (by decide) (by kernel_rfl)
          obtain rfl : undef = xv6 := f6.symm
          obtain ⟨xv7, t7, f7⟩ := hJ.fact 7 91 (by decide) (by kernel_rfl)
          obtain rfl : undef = xv7 := f7.symm
          obtain ⟨xv8, t8, f8⟩ := hJ.fact 8 92 (by decide) (by kernel_rfl)
          obtain rfl : undef = xv8 := f8.symm
          obtain ⟨xv9, t9, f9⟩ := hJ.fact 9 93 (by decide) (by kernel_rfl)
          obtain rfl : undef = xv9 := f9.symm
          obtain ⟨xv10, t10, f10⟩ := hJ.fact 10 94 (by decide) (by kernel_rfl)
          obtain rfl : undef = xv10 := f10.symm
          obtain ⟨xv11, t11, f11⟩ := hJ.fact 11 95 (by decide) (by kernel_rfl)
          obtain rfl : undef = xv11 := f11.symm
          obtain ⟨xv12, t12, f12⟩ := hJ.fact 12 96 (by decide) (by kernel_rfl)
          obtain rfl : undef = xv12 := f12.symm
          obtain ⟨xv13, t13, f13⟩ := hJ.fact 13 97 (by decide) (by kernel_rfl)
          obtain rfl : undef = xv13 := f13.symm
          obtain ⟨xv14, t14, f14⟩ := hJ.fact 14 98 (by decide) (by kernel_rfl)
          obtain rfl : undef = xv14 := f14.symm
          obtain ⟨xv15, t15, f15⟩ := hJ.fact 15 99 (by decide) (by kernel_rfl)
          obtain rfl : undef = xv15 := f15.symm
          obtain ⟨xv16, t16, f16⟩ := hJ.fact 16 100 (by decide) (by kernel_rfl)
          obtain rfl : undef = xv16 := f16.symm
          obtain ⟨xv17, t17, f17⟩ := hJ.fact 17 101 (by decide) (by kernel_rfl)
          obtain rfl : undef = xv17 := f17.symm
          obtain ⟨xv18, t18, f18⟩ := hJ.fact 18 102 (by decide) (by kernel_rfl)
          obtain rfl : undef = xv18 := f18.symm
          obtain ⟨xv19, t19, f19⟩ := hJ.fact 19 103 (by decide) (by kernel_rfl)
          obtain rfl : undef = xv19 := f19.symm
          obtain ⟨xv20, t20, f20⟩ := hJ.fact 20 104 (by decide) (by kernel_rfl)
          obtain rfl : undef = xv20 := f20.symm
          obtain ⟨xv21, t21, f21⟩ := hJ.fact 21 105 (by decide) (by kernel_rfl)
          obtain rfl : undef = xv21 := f21.symm
          obtain ⟨xv22, t22, f22⟩ := hJ.fact 22 106 (by decide) (by kernel_rfl)
          obtain rfl : xv22 = .bool true := f22
          have hfr := hJ.frame [(84, .int .i64 (n2 : Int)), (85, .slice a8 n2 c8), (86, .int .i64 (n2 : Int)), (87, .bool true), (88, .bool true), (89, undef), (90, undef), (91, undef), (92, undef), (93, undef), (94, undef), (95, undef), (96, undef), (97, undef), (98, undef), (99, undef), (100, undef), (101, undef), (102, undef), (103, undef), (104, undef), (105, undef), (106, .bool true)] (by simp [t0, t1, t2, t3, t4, t5, t6, t7, t8, t9, t10, t11, t12, t13, t14, t15, t16, t17, t18, t19, t20, t21, t22]) (by kernel_rfl)
          have G := hJ.keep
          clear hJ t0 t1 t2 t3 t4 t5 t6 t7 t8 t9 t10 t11 t12 t13 t14 t15 t16 t17 t18 t19 t20 t21 t22
          rw [hfr]
          clear hfr T10
          simp only [List.foldl_cons, List.foldl_nil, List.setIfInBounds_toArray, List.set_cons_zero, List.set_cons_succ]
          have HG := Lib.hid G
          have c0 := G.some c0
          have c1 := G.some c1
          clear G
          go_wp2_with (at_builtin; refine wpList_append_lies _ rfl _ _ 32 rfl W6.heap.size 35 i0 (.agg #[.int .i64 0, .int .i64 0]) 2 16 Try.underlying32 hi0 hz0 hz1 hz2 rfl (by decide) _ _ _ rfl ((ownsKeep HR.out.1 HG.out).alloc _) ⟨wz10.heap.size, 0, none⟩ 1 1 [.int .i64 p, .int .i64 q] rfl rfl (cell_two_new _ _ _ _) (by intro u hu; simp at hu; rcases hu with rfl | rfl <;> rfl) (by omega) (by unfold maxLen; omega) (by omega) (by have := (HR.out.2.trans HG.out).size; simp; omega) _ rfl ?_; intro g cap w3 hown3 hgrow3 _ _)
          go_roundw
          case rel =>
            refine ⟨i + 1, n2, out ++ [(p, q)], by omega, by omega, by go_num, by go_num, Lib.hid ⟨?_, ((HR.out.2.trans HG.out).alloc _).byRow hgrow3 (fun k hk => ((ownsKeep HR.out.1 HG.out).lt k hk).1)⟩, Lib.hid (by rw [List.append_assoc]; exact HS.out)⟩
            rw [cellsL_append]
            have e : i + n2 + 1 = (i + 1) + n2 := by omega
            rw [← e]
            exact hown3
          case measure => simp [intOf]; omega
        case steps10 =>
          refine LinSteps.cons (k := 0) ?_ (LinSteps.cons (k := 1) ?_ (LinSteps.cons (k := 2) ?_ (LinSteps.cons (k := 3) ?_ (LinSteps.cons (k := 4) ?_ (LinSteps.cons (k := 5) ?_ (LinSteps.cons (k := 6) ?_ (LinSteps.cons (k := 7) ?_ (LinSteps.cons (k := 8) ?_ (LinSteps.cons (k := 9) ?_ (LinSteps.cons (k := 10) ?_ (LinSteps.cons (k := 11) ?_ (LinSteps.cons (k := 12) ?_ (LinSteps.cons (k := 13) ?_ (LinSteps.cons (k := 14) ?_ (LinSteps.cons (k := 15) ?_ (LinSteps.cons (k := 16) ?_ (LinSteps.cons (k := 17) ?_ (LinSteps.cons (k := 18) ?_ (LinSteps.cons (k := 19) ?_ (LinSteps.cons (k := 20) ?_ (LinSteps.cons (k := 21) ?_ (LinSteps.cons (k := 22) ?_ (LinSteps.nil)))))))))))))))))))))))
          · -- 0
            refine LinStep.plain rfl ?_
            intro QQ bb T ww hn hJ hd K HK
            have s12 := (hJ.oldSlot 12 (by kernel_rfl))
            simp only [List.getElem?_toArray, List.getElem?_cons_zero, List.getElem?_cons_succ] at s12
            have G := hJ.keep
            clear hJ hd hn
            go_simp
            exact HK.out _ _ (Keep.refl _) rfl
          · -- 1
            refine LinStep.plain rfl ?_
            intro QQ bb T ww hn hJ hd K HK
            have s8 := (hJ.oldSlot 8 (by kernel_rfl))
            simp only [List.getElem?_toArray, List.getElem?_cons_zero, List.getElem?_cons_succ] at s8
            have G := hJ.keep
            clear hJ hd hn
            go_simp
            exact HK.out _ _ (Keep.refl _) rfl
          · -- 2
            refine LinStep.plain rfl ?_
            intro QQ bb T ww hn hJ hd K HK
            obtain ⟨xv1, t1, f1⟩ := hJ.dep hd 1 85 (by kernel_rfl) (by kernel_rfl)
            obtain rfl : xv1 = .slice a8 n2 c8 := f1
            have G := hJ.keep
            clear hJ hd hn
            go_simp
            exact HK.out _ _ (Keep.refl _) rfl
          · -- 3
            refine LinStep.plain rfl ?_
            intro QQ bb T ww hn hJ hd K HK
            obtain ⟨xv0, t0, f0⟩ := hJ.dep hd 0 84 (by kernel_rfl) (by kernel_rfl)
            obtain rfl : xv0 = .int .i64 (n2 : Int) := f0
            obtain ⟨xv2, t2, f2⟩ := hJ.dep hd 2 86 (by kernel_rfl) (by kernel_rfl)
            obtain rfl : xv2 = .int .i64 (n2 : Int) := f2
            have G := hJ.keep
            clear hJ hd hn
            go_simp
            exact HK.out _ _ (Keep.refl _) rfl
          · -- 4
            refine LinStep.plain rfl ?_
            intro QQ bb T ww hn hJ hd K HK
            obtain ⟨xv3, t3, f3⟩ := hJ.dep hd 3 87 (by kernel_rfl) (by kernel_rfl)
            obtain rfl : xv3 = .bool true := f3
            have G := hJ.keep
            clear hJ hd hn
            go_simp
            exact HK.out _ _ (Keep.refl _) rfl
          · -- 5
            exact LinStep.skipped 4 88 false rfl (by kernel_rfl) (by kernel_rfl) (fun _ _ h => h) (fun _ => rfl)
          · -- 6
            exact LinStep.skipped 4 88 false rfl (by kernel_rfl) (by kernel_rfl) (fun _ _ h => h) (fun _ => rfl)
          · -- 7
            exact LinStep.skipped 4 88 false rfl (by kernel_rfl) (by kernel_rfl) (fun _ _ h => h) (fun _ => rfl)
          · -- 8
            exact LinStep.skipped 4 88 false rfl (by kernel_rfl) (by kernel_rfl) (fun _ _ h => h) (fun _ => rfl)
          · -- 9
            exact LinStep.skipped 4 88 false rfl (by kernel_rfl) (by kernel_rfl) (fun _ _ h => h) (fun _ => rfl)
          · -- 10
            exact LinStep.unmet 9 93 true rfl (by kernel_rfl) (by kernel_rfl) (fun _ _ h => h) (fun _ => rfl)
          · -- 11
            exact LinStep.unmet 9 93 true rfl (by kernel_rfl) (by kernel_rfl) (fun _ _ h => h) (fun _ => rfl)
          · -- 12
            exact LinStep.unmet 9 93 true rfl (by kernel_rfl) (by kernel_rfl) (fun _ _ h => h) (fun _ => rfl)
          · -- 13
            exact LinStep.unmet 9 93 true rfl (by kernel_rfl) (by kernel_rfl) (fun _ _ h => h) (fun _ => rfl)
          · -- 14
            exact LinStep.unmet 9 93 true rfl (by kernel_rfl) (by kernel_rfl) (fun _ _ h => h) (fun _ => rfl)
          · -- 15
            exact LinStep.unmet 9 93 true rfl (by kernel_rfl) (by kernel_rfl) (fun _ _ h => h) (fun _ => rfl)
          · -- 16
            exact LinStep.unmet 9 93 true rfl (by kernel_rfl) (by kernel_rfl) (fun _ _ h => h) (fun _ => rfl)
          · -- 17
            exact LinStep.unmet 9 93 true rfl (by kernel_rfl) (by kernel_rfl) (fun _ _ h => h) (fun _ => rfl)
          · -- 18
            exact LinStep.unmet 9 93 true rfl (by kernel_rfl) (by kernel_rfl) (fun _ _ h => h) (fun _ => rfl)
          · -- 19
            exact LinStep.unmet 9 93 true rfl (by kernel_rfl) (by kernel_rfl) (fun _ _ h => h) (fun _ => rfl)
          · -- 20
            exact LinStep.unmet 9 93 true rfl (by kernel_rfl) (by kernel_rfl) (fun _ _ h => h) (fun _ => rfl)
          · -- 21
            exact LinStep.skipped 4 88 false rfl (by kernel_rfl) (by kernel_rfl) (fun _ _ h => h) (fun _ => rfl)
          · -- 22
            refine LinStep.plain rfl ?_
            intro QQ bb T ww hn hJ hd K HK
            obtain ⟨xv4, t4, f4⟩ := hJ.dep hd 4 88 (by kernel_rfl) (by kernel_rfl)
            obtain rfl : xv4 = .bool true := f4
            obtain ⟨xv21, t21, f21⟩ := hJ.dep hd 21 105 (by kernel_rfl) (by kernel_rfl)
            obtain rfl : undef = xv21 := f21.symm
            have G := hJ.keep
            clear hJ hd hn
            go_simp
            exact HK.out _ _ (Keep.refl _) rfl
    · obtain rfl : n1 = i := by omega
      have h1' : ¬ (n1 : Int) < (n1 : Int) := by omega
      by_cases h2 : j < n2
      · obtain ⟨b8, o8, rfl, e0, e1⟩ := E8.out j h2
        have e0 := HR.out.2.some e0
        have e1 := HR.out.2.some e1
        have h2' : (j : Int) < (n2 : Int) := by omega
        have h2e : ((j : Int) == (n2 : Int)) = false := by simp; omega
        obtain ⟨pp, hpp⟩ : ∃ p, atL x2 j = p := ⟨_, rfl⟩
        obtain ⟨qq, hqq⟩ : ∃ q, szL x2 j = q := ⟨_, rfl⟩
        rw [hpp] at e0
        rw [hqq] at e1
        have HS : Hid (out ++ ([(pp, qq)] ++ (x1.drop n1).merge (x2.drop (j + 1)) before) = M) := Lib.hid (by rw [← HO.out, merge_y (i := n1) (j := j) (by rw [L2.out]; exact h2) (Or.inl (by rw [L1.out]; omega)), hpp, hqq]; rfl)
        clear hpp hqq
        go_upto_region 10 with fail
        refine region_lin (W0 := wr) (listF [fun v ww => v = .int .i64 (j : Int), fun v ww => v = .slice (some ⟨b8, o8, none⟩) n2 c8, fun v ww => v = .int .i64 (n2 : Int), fun v ww => v = .bool false, fun v ww => v = .bool false, fun v ww => v = .int .i64 (n1 : Int), fun v ww => v = .slice a7 n1 c7, fun v ww => v = .int .i64 (n1 : Int), fun v ww => v = .bool false, fun v ww => v = .bool false, fun v ww => v = undef, fun v ww => v = undef, fun v ww => v = undef, fun v ww => v = undef, fun v ww => v = undef, fun v ww => v = undef, fun v ww => v = undef, fun v ww => v = undef, fun v ww => v = undef, fun v ww => v = undef, fun v ww => v = undef, fun v ww => v = .bool false, fun v ww => v = .bool false]) (listF_stable _ ⟨fun _ _ _ _ h => h, fun _ _ _ _ h => h, fun _ _ _ _ h => h, fun _ _ _ _ h => h, fun _ _ _ _ h => h, fun _ _ _ _ h => h, fun _ _ _ _ h => h, fun _ _ _ _ h => h, fun _ _ _ _ h => h, fun _ _ _ _ h => h, fun _ _ _ _ h => h, fun _ _ _ _ h => h, fun _ _ _ _ h => h, fun _ _ _ _ h => h, fun _ _ _ _ h => h, fun _ _ _ _ h => h, fun _ _ _ _ h => h, fun _ _ _ _ h => h, fun _ _ _ _ h => h, fun _ _ _ _ h => h, fun _ _ _ _ h => h, fun _ _ _ _ h => h, fun _ _ _ _ h => h, trivial⟩) (by kernel_rfl) (by kernel_rfl) (by kernel_rfl) (by kernel_rfl) (Keep.refl _) ?done10 ?steps10
        case done10 =>
          intro T10 wz10 hJ
          obtain ⟨xv0, t0, f0⟩ := hJ.fact 0 84 (by decide) (by kernel_rfl)
          obtain rfl : xv0 = .int .i64 (j : Int) := f0
          obtain ⟨xv1, t1, f1⟩ := hJ.fact 1 85 (by decide) (by kernel_rfl)
          obtain rfl : xv1 = .slice (some ⟨b8, o8, none⟩) n2 c8 := f1
          obtain ⟨xv2, t2, f2⟩ := hJ.fact 2 86 (by decide) (by kernel_rfl)
          obtain rfl : xv2 = .int .i64 (n2 : Int) := f2
          obtain ⟨xv3, t3, f3⟩ := hJ.fact 3 87 (by decide) (by kernel_rfl)
          obtain rfl : xv3 = .bool false := f3
          obtain ⟨xv4, t4, f4⟩ := hJ.fact 4 88 (by decide) (by kernel_rfl)
          obtain rfl : xv4 = .bool false := f4
          obtain ⟨xv5, t5, f5⟩ := hJ.fact 5 89 (by decide) (by kernel_rfl)
          obtain rfl : xv5 = .int .i64 (n1 : Int) := f5
          obtain ⟨xv6, t6, f6⟩ := hJ.fact 6 90 (by decide) (by kernel_rfl)
          obtain rfl : xv6 = .slice a7 n1 c7 := f6
          obtain ⟨xv7, t7, f7⟩ := hJ.fact 7 91 (by decide) (by kernel_rfl)
          obtain rfl : xv7 = .int .i64 (n1 : Int) := f7
          obtain ⟨xv8, t8, f8⟩ := hJ.fact 8 92 (by decide) (by kernel_rfl)
          obtain rfl : xv8 = .bool false := f8
          obtain ⟨xv9, t9, f9⟩ := hJ.fact 9 93 (by decide) (by kernel_rfl)
          obtain rfl : xv9 = .bool false := f9
          obtain ⟨xv10, t10, f10⟩ := hJ.fact 10 94 (by decide) (by kernel_rfl)
          obtain rfl : undef = xv10 := f10.symm
          obtain ⟨xv11, t11, f11⟩ := hJ.fact 11 95 (by decide) (by kernel_rfl)
          obtain rfl : undef = xv11 := f11.symm
          obtain ⟨xv12, t12, f12⟩ := hJ.fact 12 96 (by decide) (by kernel_rfl)
          obtain rfl : undef = xv12 := f12.symm
          obtain ⟨xv13, t13, f13⟩ := hJ.fact 13 97 (by decide) (by kernel_rfl)
          obtain rfl : undef = xv13 := f13.symm
          obtain ⟨xv14, t14, f14⟩ := hJ.fact 14 98 (by decide) (by kernel_rfl)
          obtain rfl : undef = xv14 := f14.symm
          obtain ⟨xv15, t15, f15⟩ := hJ.fact 15 99 (by decide) (by kernel_rfl)
          obtain rfl : undef = xv15 := f15.symm
          obtain ⟨xv16, t16, f16⟩ := hJ.fact 16 100 (by decide) (by kernel_rfl)
          obtain rfl : undef = xv16 := f16.symm
          obtain ⟨xv17, t17, f17⟩ := hJ.fact 17 101 (by decide) (by kernel_rfl)
          obtain rfl : undef = xv17 := f17.symm
          obtain ⟨xv18, t18, f18⟩ := hJ.fact 18 102 (by decide) (by kernel_rfl)
          obtain rfl : undef = xv18 := f18.symm
          obtain ⟨xv19, t19, f19⟩ := hJ.fact 19 103 (by decide) (by kernel_rfl)
          obtain rfl : undef = xv19 := f19.symm
          obtain ⟨xv20, t20, f20⟩ := hJ.fact 20 104 (by decide) (by kernel_rfl)
          obtain rfl : undef = xv20 := f20.symm
          obtain ⟨xv21, t21, f21⟩ := hJ.fact 21 105 (by decide) (by kernel_rfl)
          obtain rfl : xv21 = .bool false := f21
          obtain ⟨xv22, t22, f22⟩ := hJ.fact 22 106 (by decide) (by kernel_rfl)
          obtain rfl : xv22 = .bool false := f22
          have hfr := hJ.frame [(84, .int .i64 (j : Int)), (85, .slice (some ⟨b8, o8, none⟩) n2 c8), (86, .int .i64 (n2 : Int)), (87, .bool false), (88, .bool false), (89, .int .i64 (n1 : Int)), (90, .slice a7 n1 c7), (91, .int .i64 (n1 : Int)), (92, .bool false), (93, .bool false), (94, undef), (95, undef), (96, undef), (97, undef), (98, undef), (99, undef), (100, undef), (101, undef), (102, undef), (103, undef), (104, undef), (105, .bool false), (106, .bool false)] (by simp [t0, t1, t2, t3, t4, t5, t6, t7, t8, t9, t10, t11, t12, t13, t14, t15, t16, t17, t18, t19, t20, t21, t22]) (by kernel_rfl)
          have G := hJ.keep
          clear hJ t0 t1 t2 t3 t4 t5 t6 t7 t8 t9 t10 t11 t12 t13 t14 t15 t16 t17 t18 t19 t20 t21 t22
          rw [hfr]
          clear hfr T10
          simp only [List.foldl_cons, List.foldl_nil, List.setIfInBounds_toArray, List.set_cons_zero, List.set_cons_succ]
          have HG := Lib.hid G
          have e0 := G.some e0
          have e1 := G.some e1
          clear G
          go_wp2_with (at_builtin; refine wpList_append_lies _ rfl _ _ 32 rfl W6.heap.size 35 i0 (.agg #[.int .i64 0, .int .i64 0]) 2 16 Try.underlying32 hi0 hz0 hz1 hz2 rfl (by decide) _ _ _ rfl ((ownsKeep HR.out.1 HG.out).alloc _) ⟨wz10.heap.size, 0, none⟩ 1 1 [.int .i64 pp, .int .i64 qq] rfl rfl (cell_two_new _ _ _ _) (by intro u hu; simp at hu; rcases hu with rfl | rfl <;> rfl) (by omega) (by unfold maxLen; omega) (by omega) (by have := (HR.out.2.trans HG.out).size; simp; omega) _ rfl ?_; intro g cap w3 hown3 hgrow3 _ _)
          go_roundw
          case rel =>
            refine ⟨n1, j + 1, out ++ [(pp, qq)], by omega, by omega, by go_num, by go_num, Lib.hid ⟨?_, ((HR.out.2.trans HG.out).alloc _).byRow hgrow3 (fun k hk => ((ownsKeep HR.out.1 HG.out).lt k hk).1)⟩, Lib.hid (by rw [List.append_assoc]; exact HS.out)⟩
            rw [cellsL_append]
            have e : n1 + j + 1 = n1 + (j + 1) := by omega
            rw [← e]
            exact hown3
          case measure => simp [intOf]; omega
        case steps10 =>
          refine LinSteps.cons (k := 0) ?_ (LinSteps.cons (k := 1) ?_ (LinSteps.cons (k := 2) ?_ (LinSteps.cons (k := 3) ?_ (LinSteps.cons (k := 4) ?_ (LinSteps.cons (k := 5) ?_ (LinSteps.cons (k := 6) ?_ (LinSteps.cons (k := 7) ?_ (LinSteps.cons (k := 8) ?_ (LinSteps.cons (k := 9) ?_ (LinSteps.cons (k := 10) ?_ (LinSteps.cons (k := 11) ?_ (LinSteps.cons (k := 12) ?_ (LinSteps.cons (k := 13) ?_ (LinSteps.cons (k := 14) ?_ (LinSteps.cons (k := 15) ?_ (LinSteps.cons (k := 16) ?_ (LinSteps.cons (k := 17) ?_ (LinSteps.cons (k := 18) ?_ (LinSteps.cons (k := 19) ?_ (LinSteps.cons (k := 20) ?_ (LinSteps.cons (k := 21) ?_ (LinSteps.cons (k := 22) ?_ (LinSteps.nil)))))))))))))))))))))))
          · -- 0
            refine LinStep.plain rfl ?_
            intro QQ bb T ww hn hJ hd K HK
            have s12 := (hJ.oldSlot 12 (by kernel_rfl))
            simp only [List.getElem?_toArray, List.getElem?_cons_zero, List.getElem?_cons_succ] at s12
            have G := hJ.keep
            clear hJ hd hn
            go_simp
            exact HK.out _ _ (Keep.refl _) rfl
          · -- 1
            refine LinStep.plain rfl ?_
            intro QQ bb T ww hn hJ hd K HK
            have s8 := (hJ.oldSlot 8 (by kernel_rfl))
            simp only [List.getElem?_toArray, List.getElem?_cons_zero, List.getElem?_cons_succ] at s8
            have G := hJ.keep
            clear hJ hd hn
            go_simp
            exact HK.out _ _ (Keep.refl _) rfl
          · -- 2
            refine LinStep.plain rfl ?_
            intro QQ bb T ww hn hJ hd K HK
            obtain ⟨xv1, t1, f1⟩ := hJ.dep hd 1 85 (by kernel_rfl) (by kernel_rfl)
            obtain rfl : xv1 = .slice (some ⟨b8, o8, none⟩) n2 c8 := f1
            have G := hJ.keep
            clear hJ hd hn
            go_simp
            exact HK.out _ _ (Keep.refl _) rfl
          · -- 3
            refine LinStep.plain rfl ?_
            intro QQ bb T ww hn hJ hd K HK
            obtain ⟨xv0, t0, f0⟩ := hJ.dep hd 0 84 (by kernel_rfl) (by kernel_rfl)
            obtain rfl : xv0 = .int .i64 (j : Int) := f0
            obtain ⟨xv2, t2, f2⟩ := hJ.dep hd 2 86 (by kernel_rfl) (by kernel_rfl)
            obtain rfl : xv2 = .int .i64 (n2 : Int) := f2
            have G := hJ.keep
            clear hJ hd hn
            go_simp
            exact HK.out _ _ (Keep.refl _) rfl
          · -- 4
            refine LinStep.plain rfl ?_
            intro QQ bb T ww hn hJ hd K HK
            obtain ⟨xv3, t3, f3⟩ := hJ.dep hd 3 87 (by kernel_rfl) (by kernel_rfl)
            obtain rfl : xv3 = .bool false := f3
            have G := hJ.keep
            clear hJ hd hn
            go_simp
            exact HK.out _ _ (Keep.refl _) rfl
          · -- 5
            refine LinStep.guarded 4 88 false rfl (by kernel_rfl) (by kernel_rfl) (fun _ _ h => h) ?_
            intro QQ bb T ww hn hJ hd K HK
            have s11 := (hJ.oldSlot 11 (by kernel_rfl))
            simp only [List.getElem?_toArray, List.getElem?_cons_zero, List.getElem?_cons_succ] at s11
            have G := hJ.keep
            clear hJ hd hn
            go_simp
            exact HK.out _ _ (Keep.refl _) rfl
          · -- 6
            refine LinStep.guarded 4 88 false rfl (by kernel_rfl) (by kernel_rfl) (fun _ _ h => h) ?_
            intro QQ bb T ww hn hJ hd K HK
            have s7 := (hJ.oldSlot 7 (by kernel_rfl))
            simp only [List.getElem?_toArray, List.getElem?_cons_zero, List.getElem?_cons_succ] at s7
            have G := hJ.keep
            clear hJ hd hn
            go_simp
            exact HK.out _ _ (Keep.refl _) rfl
          · -- 7
            refine LinStep.guarded 4 88 false rfl (by kernel_rfl) (by kernel_rfl) (fun _ _ h => h) ?_
            intro QQ bb T ww hn hJ hd K HK
            obtain ⟨xv6, t6, f6⟩ := hJ.dep hd 6 90 (by kernel_rfl) (by kernel_rfl)
            obtain rfl : xv6 = .slice a7 n1 c7 := f6
            have G := hJ.keep
            clear hJ hd hn
            go_simp
            exact HK.out _ _ (Keep.refl _) rfl
          · -- 8
            refine LinStep.guarded 4 88 false rfl (by kernel_rfl) (by kernel_rfl) (fun _ _ h => h) ?_
            intro QQ bb T ww hn hJ hd K HK
            obtain ⟨xv5, t5, f5⟩ := hJ.dep hd 5 89 (by kernel_rfl) (by kernel_rfl)
            obtain rfl : xv5 = .int .i64 (n1 : Int) := f5
            obtain ⟨xv7, t7, f7⟩ := hJ.dep hd 7 91 (by kernel_rfl) (by kernel_rfl)
            obtain rfl : xv7 = .int .i64 (n1 : Int) := f7
            have G := hJ.keep
            clear hJ hd hn
            go_simp
            exact HK.out _ _ (Keep.refl _) rfl
          · -- 9
            refine LinStep.guarded 4 88 false rfl (by kernel_rfl) (by kernel_rfl) (fun _ _ h => h) ?_
            intro QQ bb T ww hn hJ hd K HK
            obtain ⟨xv8, t8, f8⟩ := hJ.dep hd 8 92 (by kernel_rfl) (by kernel_rfl)
            obtain rfl : xv8 = .bool false := f8
            have G := hJ.keep
            clear hJ hd hn
            go_simp
            exact HK.out _ _ (Keep.refl _) rfl
          · -- 10
            exact LinStep.skipped 9 93 true rfl (by kernel_rfl) (by kernel_rfl) (fun _ _ h => h) (fun _ => rfl)
          · -- 11
            exact LinStep.skipped 9 93 true rfl (by kernel_rfl) (by kernel_rfl) (fun _ _ h => h) (fun _ => rfl)
          · -- 12
            exact LinStep.skipped 9 93 true rfl (by kernel_rfl) (by kernel_rfl) (fun _ _ h => h) (fun _ => rfl)
          · -- 13
            exact LinStep.skipped 9 93 true rfl (by kernel_rfl) (by kernel_rfl) (fun _ _ h => h) (fun _ => rfl)
          · -- 14
            exact LinStep.skipped 9 93 true rfl (by kernel_rfl) (by kernel_rfl) (fun _ _ h => h) (fun _ => rfl)
          · -- 15
            exact LinStep.skipped 9 93 true rfl (by kernel_rfl) (by kernel_rfl) (fun _ _ h => h) (fun _ => rfl)
          · -- 16
            exact LinStep.skipped 9 93 true rfl (by kernel_rfl) (by kernel_rfl) (fun _ _ h => h) (fun _ => rfl)
          · -- 17
            exact LinStep.skipped 9 93 true rfl (by kernel_rfl) (by kernel_rfl) (fun _ _ h => h) (fun _ => rfl)
          · -- 18
            exact LinStep.skipped 9 93 true rfl (by kernel_rfl) (by kernel_rfl) (fun _ _ h => h) (fun _ => rfl)
          · -- 19
            exact LinStep.skipped 9 93 true rfl (by kernel_rfl) (by kernel_rfl) (fun _ _ h => h) (fun _ => rfl)
          · -- 20
            exact LinStep.skipped 9 93 true rfl (by kernel_rfl) (by kernel_rfl) (fun _ _ h => h) (fun _ => rfl)
          · -- 21
            refine LinStep.guarded 4 88 false rfl (by kernel_rfl) (by kernel_rfl) (fun _ _ h => h) ?_
            intro QQ bb T ww hn hJ hd K HK
            obtain ⟨xv9, t9, f9⟩ := hJ.dep hd 9 93 (by kernel_rfl) (by kernel_rfl)
            obtain rfl : xv9 = .bool false := f9
            obtain ⟨xv20, t20, f20⟩ := hJ.dep hd 20 104 (by kernel_rfl) (by kernel_rfl)
            obtain rfl : undef = xv20 := f20.symm
            have G := hJ.keep
            clear hJ hd hn
            go_simp
            exact HK.out _ _ (Keep.refl _) rfl
          · -- 22
            refine LinStep.plain rfl ?_
            intro QQ bb T ww hn hJ hd K HK
            obtain ⟨xv4, t4, f4⟩ := hJ.dep hd 4 88 (by kernel_rfl) (by kernel_rfl)
            obtain rfl : xv4 = .bool false := f4
            obtain ⟨xv21, t21, f21⟩ := hJ.dep hd 21 105 (by kernel_rfl) (by kernel_rfl)
            obtain rfl : xv21 = .bool false := f21
            have G := hJ.keep
            clear hJ hd hn
            go_simp
            exact HK.out _ _ (Keep.refl _) rfl
      · obtain rfl : n2 = j := by omega
        have h2' : ¬ (n2 : Int) < (n2 : Int) := by omega
        have HOM : Hid (out = M) := Lib.hid (by rw [← HO.out, List.drop_eq_nil_of_le (by rw [L1.out]; exact Nat.le_refl _), List.drop_eq_nil_of_le (by rw [L2.out]; exact Nat.le_refl _)]; simp)
        have RB := rowAtOwns HR.out.1
        rw [HOM.out] at RB
        go_wp2
        go_meet
        exact ⟨Lib.hid RB, Lib.hid HR.out.2⟩

noncomputable def mergesL2 : Code := ((Try.f3.body.bind (findBlock 2)).getD .skip)
set_option maxRecDepth 1000000 in
set_option maxHeartbeats 8000000 in
theorem merges_loop2 (x1 : List (Int × Int)) (n1 c7 : Nat) (a7 : Option Addr) (pa : Option Addr) (pn pc : Nat) (pf : Nat → Bool) (s0 s2 s5 s6 s8 s9 s11 s12 u16 u17 u18 u19 u20 u21 u22 u23 u24 u25 u26 u27 u28 u29 u30 u31 u32 u33 u34 u35 u36 u37 u38 u39 u40 u41 u42 u43 u44 u45 u46 u47 u48 u49 u50 u51 u52 u53 u54 u55 u56 u57 u58 u59 u60 u61 u62 u63 u64 u65 u66 u67 u68 u69 u70 u71 u72 u73 u74 u75 u76 u77 u78 u79 u80 u81 u82 u83 u84 u85 u86 u87 u88 u89 u90 u91 u92 u93 u94 u95 u96 u97 u98 u99 u100 u101 u102 u103 u104 u105 u106 u107 u108 u109 u110 u111 u112 u113 u114 u115 u116 u117 u118 u119 u120 u121 u122 u123 u124 u125 u126 u127 u128 u129 u130 u131 u132 u133 u134 u135 u136 u137 u138 u139 u140 u141 u142 u143 u144 u145 u146 u147 u148 u149 u150 u151 u152 u153 u154 u155 u156 u157 u158 u159 u160 u161 u162 u163 u164 u165 u166 u167 u168 u169 u170 u171 u172 u173 u174 u175 u176 u177 u178 u179 : Value) (W7 : World) (ln1 : n1 ≤ 30)
    (E7 : Hid (∀ j, j < n1 → ∃ b off, a7 = some ⟨b, off, none⟩ ∧ W7.cell? ⟨b, off + j * 2, none⟩ = some (.int .i64 (atL x1 j)) ∧ W7.cell? ⟨b, off + j * 2 + 1, none⟩ = some (.int .i64 (szL x1 j))))
    (HPK : Hid (BoolsAt W7 pa pn pf)) (L1 : Hid (x1.length = n1)) (J K' : Act → World → Prop) (Q' : Exit → Act → World → Prop)
    (h1J : ∀ a' w', (∃ u10 u13 u16 u17 u18 u19 u20 u21 u22 u23 u24 u25 u26 u27 u28 u29 u30 u31 u32 u33 u34 u35 u36 u37 u38 u39 u40 u41 u42 u43 u44 u45 u46 u47 u48 u49 u50 u51 u52 u53 u54 u55 u56 u57 u58 u59 u60 u61 u62 u63 u64 u65 u66 u67 u68 u69 u70 u71 u72 u73 u74 u75 u76 u77 u78 u79 u80 u81 u82 u83 u84 u85 u86 u87 u88 u89 u90 u91 u92 u93 u94 u95 u96 u97 u98 u99 u100 u101 u102 u103 u104 u105 u106 u107 u108 u109 u110 u111 u112 u113 u114 u115 u116 u117 u118 u119 u120 u121 u122 u123 u124 u125 u126 u127 u128 u129 u130 u131 u132 u133 u134 u135 u136 u137 u138 u139 u140 u141 u142 u143 u144 u145 u146 u147 u148 u149 u150 u151 u152 u153 u154 u155 u156 u157 u158 u159 u160 u161 u162 u163 u164 u165 u166 u167 u168 u169 u170 u171 u172 u173 u174 u175 u176 u177 u178 u179 : Value, (∃ out : List (Int × Int), Hid (RowAt w' u10 out) ∧ Hid (out.Sublist x1) ∧ Hid (Keep W7 w')) ∧ a' = ⟨#[s0, .slice pa pn pc, s2, undef, .bool false, s5, s6, .slice a7 n1 c7, s8, s9, u10, s11, s12, u13, undef, undef, u16, u17, u18, u19, u20, u21, u22, u23, u24, u25, u26, u27, u28, u29, u30, u31, u32, u33, u34, u35, u36, u37, u38, u39, u40, u41, u42, u43, u44, u45, u46, u47, u48, u49, u50, u51, u52, u53, u54, u55, u56, u57, u58, u59, u60, u61, u62, u63, u64, u65, u66, u67, u68, u69, u70, u71, u72, u73, u74, u75, u76, u77, u78, u79, u80, u81, u82, u83, u84, u85, u86, u87, u88, u89, u90, u91, u92, u93, u94, u95, u96, u97, u98, u99, u100, u101, u102, u103, u104, u105, u106, u107, u108, u109, u110, u111, u112, u113, u114, u115, u116, u117, u118, u119, u120, u121, u122, u123, u124, u125, u126, u127, u128, u129, u130, u131, u132, u133, u134, u135, u136, u137, u138, u139, u140, u141, u142, u143, u144, u145, u146, u147, u148, u149, u150, u151, u152, u153, u154, u155, u156, u157, u158, u159, u160, u161, u162, u163, u164, u165, u166, u167, u168, u169, u170, u171, u172, u173, u174, u175, u176, u177, u178, u179], []⟩) → J a' w')
    (h2J : ∀ a' w', Met J a' w' → K' a' w') :
    Code.wp Try.prog mergesL2 (Exit.then K' Q') ⟨#[s0, .slice pa pn pc, s2, undef, .bool false, s5, s6, .slice a7 n1 c7, s8, s9, .slice none 0 0, s11, s12, .int .i64 0, undef, undef, u16, u17, u18, u19, u20, u21, u22, u23, u24, u25, u26, u27, u28, u29, u30, u31, u32, u33, u34, u35, u36, u37, u38, u39, u40, u41, u42, u43, u44, u45, u46, u47, u48, u49, u50, u51, u52, u53, u54, u55, u56, u57, u58, u59, u60, u61, u62, u63, u64, u65, u66, u67, u68, u69, u70, u71, u72, u73, u74, u75, u76, u77, u78, u79, u80, u81, u82, u83, u84, u85, u86, u87, u88, u89, u90, u91, u92, u93, u94, u95, u96, u97, u98, u99, u100, u101, u102, u103, u104, u105, u106, u107, u108, u109, u110, u111, u112, u113, u114, u115, u116, u117, u118, u119, u120, u121, u122, u123, u124, u125, u126, u127, u128, u129, u130, u131, u132, u133, u134, u135, u136, u137, u138, u139, u140, u141, u142, u143, u144, u145, u146, u147, u148, u149, u150, u151, u152, u153, u154, u155, u156, u157, u158, u159, u160, u161, u162, u163, u164, u165, u166, u167, u168, u169, u170, u171, u172, u173, u174, u175, u176, u177, u178, u179], []⟩ W7 := by
  conv => arg 2; whnf
  obtain ⟨i0, hi0, hz0, hz1, hz2⟩ := info_parts infoArrival
  go_wp2
  go_loopw [10, 13] (fun s10 s13 wr => ∃ (i : Nat) (out : List (Int × Int)), i ≤ n1 ∧ s13 = .int .i64 (i : Int) ∧ Hid (wr.ownsRow W7.heap.size 35 2 s10 out.length (cellsL out) ∧ Keep W7 wr) ∧ Hid (out.Sublist (x1.take i))) (fun _ i _ => n1 - (intOf i).toNat)
  case atStart => exact ⟨0, [], by omega, rfl, Lib.hid ⟨World.ownsRow_nil _ _ _ _, Keep.refl _⟩, Lib.hid (List.nil_sublist _)⟩
  case round =>
    obtain ⟨i, out, hi, rfl, HR, HO⟩ := hrel
    have hol : out.length ≤ 30 := by have := HO.out.length_le; rw [List.length_take] at this; omega
    by_cases h1 : i < n1
    · obtain ⟨b7, o7, rfl, c0, c1⟩ := E7.out i h1
      have c0 := HR.out.2.some c0
      have c1 := HR.out.2.some c1
      have h1' : (i : Int) < (n1 : Int) := by omega
      obtain ⟨p, hp⟩ : ∃ p, atL x1 i = p := ⟨_, rfl⟩
      obtain ⟨q, hq⟩ : ∃ q, szL x1 i = q := ⟨_, rfl⟩
      rw [hp] at c0
      rw [hq] at c1
      have HT : Hid (x1.take (i + 1) = x1.take i ++ [(p, q)]) := Lib.hid (by rw [← hp, ← hq]; exact take_next (by rw [L1.out]; exact h1))
      clear hp hq
      by_cases h2 : i < pn
      · obtain ⟨bp, op, rfl, cp⟩ := HPK.out.2 i h2
        have cp := HR.out.2.some cp
        have h2' : ¬ (pn : Int) ≤ (i : Int) := by omega
        cases hpf : pf i with
        | true =>
          rw [hpf] at cp
          go_wp2_with (at_builtin; refine wpList_append_lies _ rfl _ _ 32 rfl W7.heap.size 35 i0 (.agg #[.int .i64 0, .int .i64 0]) 2 16 Try.underlying32 hi0 hz0 hz1 hz2 rfl (by decide) _ _ _ rfl (HR.out.1.alloc _) ⟨wr.heap.size, 0, none⟩ 1 1 [.int .i64 p, .int .i64 q] rfl rfl (cell_two_new _ _ _ _) (by intro u hu; simp at hu; rcases hu with rfl | rfl <;> rfl) (by omega) (by unfold maxLen; omega) (by omega) (by have := HR.out.2.size; simp; omega) _ rfl ?_; intro g cap w3 hown3 hgrow3 _ _)
          go_roundw
          case rel =>
            refine ⟨i + 1, out ++ [(p, q)], by omega, by go_num, Lib.hid ⟨?_, (HR.out.2.alloc _).byRow hgrow3 (fun k hk => (HR.out.1.lt k hk).1)⟩, Lib.hid (by rw [HT.out]; exact HO.out.append (List.Sublist.refl _))⟩
            rw [cellsL_append, List.length_append]
            exact hown3
          case measure => simp [intOf]; omega
        | false =>
          rw [hpf] at cp
          go_wp2
          go_roundw
          case rel => exact ⟨i + 1, out, by omega, by go_num, HR, Lib.hid (by rw [HT.out]; exact HO.out.trans (List.sublist_append_left _ _))⟩
          case measure => simp [intOf]; omega
      · have h2' : (pn : Int) ≤ (i : Int) := by omega
        go_wp2_with (at_builtin; refine wpList_append_lies _ rfl _ _ 32 rfl W7.heap.size 35 i0 (.agg #[.int .i64 0, .int .i64 0]) 2 16 Try.underlying32 hi0 hz0 hz1 hz2 rfl (by decide) _ _ _ rfl (HR.out.1.alloc _) ⟨wr.heap.size, 0, none⟩ 1 1 [.int .i64 p, .int .i64 q] rfl rfl (cell_two_new _ _ _ _) (by intro u hu; simp at hu; rcases hu with rfl | rfl <;> rfl) (by omega) (by unfold maxLen; omega) (by omega) (by have := HR.out.2.size; simp; omega) _ rfl ?_; intro g cap w3 hown3 hgrow3 _ _)
        go_roundw
        case rel =>
          refine ⟨i + 1, out ++ [(p, q)], by omega, by go_num, Lib.hid ⟨?_, (HR.out.2.alloc _).byRow hgrow3 (fun k hk => (HR.out.1.lt k hk).1)⟩, Lib.hid (by rw [HT.out]; exact HO.out.append (List.Sublist.refl _))⟩
          rw [cellsL_append, List.length_append]
          exact hown3
        case measure => simp [intOf]; omega
    · obtain rfl : n1 = i := by omega
      have h1' : ¬ (n1 : Int) < (n1 : Int) := by omega
      go_wp2
      go_meet
      exact ⟨out, Lib.hid (rowAtOwns HR.out.1), Lib.hid (by have := HO.out; rwa [List.take_of_length_le (by rw [L1.out]; exact Nat.le_refl _)] at this), Lib.hid HR.out.2⟩

end Go.Proofs.Ytaknbjjcgcmdlaa
