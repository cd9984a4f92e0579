import Derived.Test.YtefkdpppcjlflaaGreatDoorIt16
import Derived.Deep.DeepCutAuto
import Derived.Test.YtefkdpppcjlflaaGreatDoorIt15
import Derived.Great.BuildSlice
namespace Go.Proofs.YtefkdpppcjlflaaGreatDoor.Draw
open Go Go.RowKit Go.Proofs.YtefkdpppcjlflaaGreatDoor.Mem Go.Proofs.YtefkdpppcjlflaaGreatDoor.Parse
set_option linter.unusedVariables false
set_option linter.unusedSimpArgs false
attribute [local go_sem ↓] Go.wp_at_zero Go.wp_at_succ

set_option maxHeartbeats 6400000 in
set_option maxRecDepth 1000000 in
theorem roadSeg (B g : Nat) (bs : List UInt8) (w wc : World) (hB : B ≤ g) (hBs : B ≤ w.heap.size) (hl : bs.length ≤ 1048576) (L1 : List Veh) (L2 : List Req) (s7 : DS) (z1 z2 : Value) (n : Nat) (hnb : n ≤ 1860) (hI1 : w.heap.size + 1 ≠ g) (hI2 : w.heap.size ≠ g) (J1 : Hid (IS B g (w.heap.size + 1) w.heap.size w wc bs s7 z1 z2 (.slice none 0 0) ⟨L1, L2, []⟩)) (PP : Ending → World → Prop) (u1 u2 u3 u4 u5 u8 u9 u10 u11 u12 u13 u14 u16 u17 u18 u19 u20 u21 u22 u23 u24 u25 u26 u27 u28 u29 u30 u31 u32 u33 u34 u35 u36 u37 u38 u39 u40 u41 u42 u43 u44 u45 u46 u47 u48 u49 u50 u51 u52 u53 u54 u55 u56 u57 u58 u59 u60 u61 u62 u63 u64 u65 u66 u67 u68 u69 u70 u71 u72 u73 u74 u75 u76 u77 u78 u79 u80 u81 u82 u83 u84 u85 u86 u87 u88 u89 u90 u91 u92 u93 u94 u95 u96 u97 u98 u99 u100 u101 u102 u103 u104 u105 u106 u107 u108 u109 u110 u111 u112 u113 u114 u115 u116 u117 u118 u119 u120 u121 u122 u123 u124 u125 u126 u127 u128 u129 u130 u131 u132 u133 u134 u135 u136 u137 u138 u139 u140 u141 u142 u143 u144 u145 u146 u147 u148 u149 u150 u151 u152 u153 u154 u155 u156 u157 u158 u159 u160 u161 u162 u163 u164 u165 u166 u167 u168 u169 u170 u171 u172 u173 u174 u175 u176 u177 u178 u179 u180 u181 u182 u183 u184 u185 u186 u187 : Value) (K : Act → World → Prop) (hK : ∀ (v16 v17 v18 v19 v22 v23 v24 v25 v26 v27 v28 v29 v30 v31 v32 v33 v34 v35 v36 v37 v38 v39 v40 v41 v42 v43 v44 v45 v46 v47 v48 v49 v50 v51 v52 v53 v54 v55 v56 v57 v58 v59 v60 v61 v62 v63 v64 v65 v66 v67 v68 v69 v70 v71 v72 v73 v74 v75 v76 v77 v78 v79 v80 v81 v82 v83 v84 v85 v86 v87 v88 v89 v90 v91 v92 v93 v94 v95 v96 v97 v98 v99 v100 v101 v102 v103 v104 v105 v106 v107 v108 v109 v110 v111 v112 v113 v114 v115 v116 v117 v118 v119 v120 v121 v122 v123 v124 v125 v126 v127 v128 v129 v130 v131 v132 v133 v134 v135 v136 v137 v138 v139 v140 v141 v142 v143 v144 v145 v146 v147 v148 v149 v150 v151 v152 v153 v154 v155 v156 v157 v158 v159 v160 v161 v162 v163 v164 v165 v166 v167 v168 v169 v170 v171 v172 v173 v174 v175 v176 v177 v178 v179 v180 v181 v182 v183 v184 v185 v186 v187 : Value) (wx : World) (R : List Rd) (z : Value) (q : DS), R.length ≤ 4 → Hid (rdsOf bs n s7 = (R, q)) → Hid (IS B g (w.heap.size + 1) w.heap.size w wx bs q z1 z2 z ⟨L1, L2, R⟩) → K { tmps := #[.pointer (some ⟨g, 0, none⟩), u1, u2, u3, u4, u5, .pointer (some ⟨w.heap.size, 0, none⟩), .pointer (some ⟨w.heap.size + 1, 0, none⟩), u8, u9, u10, u11, u12, u13, u14, .int .i64 (n : Int), v16, v17, v18, v19, u20, u21, v22, v23, v24, v25, v26, v27, v28, v29, v30, v31, v32, v33, v34, v35, v36, v37, v38, v39, v40, v41, v42, v43, v44, v45, v46, v47, v48, v49, v50, v51, v52, v53, v54, v55, v56, v57, v58, v59, v60, v61, v62, v63, v64, v65, v66, v67, v68, v69, v70, v71, v72, v73, v74, v75, v76, v77, v78, v79, v80, v81, v82, v83, v84, v85, v86, v87, v88, v89, v90, v91, v92, v93, v94, v95, v96, v97, v98, v99, v100, v101, v102, v103, v104, v105, v106, v107, v108, v109, v110, v111, v112, v113, v114, v115, v116, v117, v118, v119, v120, v121, v122, v123, v124, v125, v126, v127, v128, v129, v130, v131, v132, v133, v134, v135, v136, v137, v138, v139, v140, v141, v142, v143, v144, v145, v146, v147, v148, v149, v150, v151, v152, v153, v154, v155, v156, v157, v158, v159, v160, v161, v162, v163, v164, v165, v166, v167, v168, v169, v170, v171, v172, v173, v174, v175, v176, v177, v178, v179, v180, v181, v182, v183, v184, v185, v186, v187], defers := [] } wx) :
    Code.wp Tryz.prog (sL (sR (sR (sR (sR (sR (sR (sR (sR (sR (sR (Tryz.f10.body.getD .skip)))))))))))) (Exit.then K (bodyPost Tryz.prog Tryz.f10 PP)) { tmps := #[.pointer (some ⟨g, 0, none⟩), u1, u2, u3, u4, u5, .pointer (some ⟨w.heap.size, 0, none⟩), .pointer (some ⟨w.heap.size + 1, 0, none⟩), u8, u9, u10, u11, u12, u13, u14, .int .i64 (n : Int), u16, u17, u18, u19, u20, u21, u22, u23, u24, u25, u26, u27, u28, u29, u30, u31, u32, u33, u34, u35, u36, u37, u38, u39, u40, u41, u42, u43, u44, u45, u46, u47, u48, u49, u50, u51, u52, u53, u54, u55, u56, u57, u58, u59, u60, u61, u62, u63, u64, u65, u66, u67, u68, u69, u70, u71, u72, u73, u74, u75, u76, u77, u78, u79, u80, u81, u82, u83, u84, u85, u86, u87, u88, u89, u90, u91, u92, u93, u94, u95, u96, u97, u98, u99, u100, u101, u102, u103, u104, u105, u106, u107, u108, u109, u110, u111, u112, u113, u114, u115, u116, u117, u118, u119, u120, u121, u122, u123, u124, u125, u126, u127, u128, u129, u130, u131, u132, u133, u134, u135, u136, u137, u138, u139, u140, u141, u142, u143, u144, u145, u146, u147, u148, u149, u150, u151, u152, u153, u154, u155, u156, u157, u158, u159, u160, u161, u162, u163, u164, u165, u166, u167, u168, u169, u170, u171, u172, u173, u174, u175, u176, u177, u178, u179, u180, u181, u182, u183, u184, u185, u186, u187], defers := [] } wc := by
  conv =>
    arg 2
    dsimp only [Tryz.f10, Option.getD, sR, sL]
  conv =>
    arg 4
    dsimp only
  dsimp only at hK
  have HKK := Hid.mk hK
  clear hK
  go_upto_region 30 with fail
  go_cut [98] (fun v wx => ∃ (o : Bool) (q : DS), v = .bool o ∧ (o = true → 2 ≤ n) ∧ Hid ((if 2 ≤ n then ((dOnce bs s7 2).1, (dOnce bs s7 2).2) else (false, s7)) = (o, q)) ∧ Hid (IS B g (w.heap.size + 1) w.heap.size w wx bs q z1 z2 (.slice none 0 0) ⟨L1, L2, []⟩))
  case first =>
    as_aux_lemma =>
      by_cases hn2 : 2 ≤ n
      · have h2 : (2 : Int) ≤ (n : Int) := by omega
        go_wp2_with fail
        refine (onceD B g bs s7 2 _ hB J1.out.d hl (by omega) (by omega)).mono ?_
        rintro e w20 ⟨rfl, d, gg⟩
        have J2 := Hid.mk (J1.out.call d gg hI1 hI2)
        clear d gg J1
        go_wp2_with fail
        go_meet
        exact ⟨_, _, rfl, fun _ => hn2, by unfold Hid; rw [if_pos hn2], J2⟩
      · have h2 : decide ((2 : Int) ≤ (n : Int)) = false := by simp; omega
        go_wp2_with fail
        go_meet
        exact ⟨false, _, rfl, (fun h => by cases h), by unfold Hid; rw [if_neg hn2], J1⟩
  case rest =>
    obtain ⟨o, s8, rfl, ho, OQ, J2⟩ := hcut
    (rename ∀ (a : Act) (w : World), Code.wp _ _ _ a w → _ => hK0; refine hK0 _ _ ?_; clear hK0)
    clear J1
    go_upto_if 98 with fail
    go_cut [] (fun wx => ∃ (R : List Rd) (z : Value) (q : DS), R.length ≤ 4 ∧ Hid (rdsOf bs n s7 = (R, q)) ∧ Hid (IS B g (w.heap.size + 1) w.heap.size w wx bs q z1 z2 z ⟨L1, L2, R⟩))
    case first =>
      as_aux_lemma =>
        cases o with
        | false =>
          go_wp2_with fail
          go_meet
          refine ⟨[], _, _, Nat.zero_le _, ?_, J2⟩
          have hq := OQ.out
          unfold Hid rdsOf
          by_cases hn2 : 2 ≤ n
          · rw [if_pos hn2] at hq ⊢
            injection hq with h1 h2
            simp only [h1, Bool.false_eq_true, if_false, h2]
          · rw [if_neg hn2] at hq ⊢
            injection hq with h1 h2
            rw [h2]
        | true =>
          have hn2 := ho rfl
          clear ho
          obtain ⟨kk, hkk⟩ : ∃ x, x = 1 + (dBelow bs s8 4).1 := ⟨_, rfl⟩
          obtain ⟨s9, hs9⟩ : ∃ t, t = (dBelow bs s8 4).2 := ⟨_, rfl⟩
          have hk4 : kk ≤ 4 := by have := below_lt bs s8 (show 0 < 4 by omega); omega
          have K31 : Hid (∀ w, DC B g w bs s8 → Calls Tryz.prog 24 #[.pointer (some ⟨g, 0, none⟩), .int .i64 1, .int .i64 4] w fun e w' => e = .returned (.int .i64 (kk : Int)) ∧ DC B g w' bs s9 ∧ w.grownBy w' (some g)) := fun w hd => by
            have := rangeD B g bs s8 1 4 w hB hd hl (by omega) (by omega) (by omega)
            unfold dRange at this
            rw [show ((4 : Int) - 1 + 1).toNat = 4 by omega] at this
            rw [hkk, hs9, Int.natCast_add]; exact this
          have HRD : Hid (rdsOf bs n s7 = ((dRoads bs n kk s9).2.2.1, (dRoads bs n kk s9).2.2.2)) := by
            have hq := OQ.out
            rw [if_pos hn2] at hq
            injection hq with h1 h2
            unfold Hid rdsOf
            rw [if_pos hn2]
            simp only [h1, if_true, h2, ← hkk, ← hs9]
          clear hkk hs9
          go_wp2_with fail
          refine (K31.out _ J2.out.d).mono ?_
          rintro e w21 ⟨rfl, d, gg⟩
          have J3 := Hid.mk (J2.out.call d gg hI1 hI2)
          clear d gg J2 K31
          go_wp2_with fail
          go_loopw [17, 18, 19] (fun a b i wr => ∃ (k : Nat) (z : Value), k ≤ kk ∧ i = .int .i64 (k : Int) ∧ a = .int .i64 ((dRoads bs n k s9).1 : Int) ∧ b = .int .i64 (dRoads bs n k s9).2.1 ∧ Hid (IS B g (w.heap.size + 1) w.heap.size w wr bs (dRoads bs n k s9).2.2.2 z1 z2 z ⟨L1, L2, (dRoads bs n k s9).2.2.1⟩)) (fun _ _ i _ => kk - (intOf i).toNat)
          case atStart => exact ⟨0, _, Nat.zero_le _, rfl, rfl, rfl, J3⟩
          case round =>
            as_aux_lemma =>
              clear J3
              obtain ⟨k, z, hk, rfl, rfl, rfl, hI⟩ := hrel
              by_cases hlt : k < kk
              · obtain ⟨hx, hy0, hy1, hR⟩ := roads_bd bs n s9 (by omega) k
                have HN : Hid (dRoads bs n (k + 1) s9 = stepRd bs n (dRoads bs n k s9).1 (dRoads bs n k s9).2.1 (dRoads bs n k s9).2.2.1 (dRoads bs n k s9).2.2.2) := rfl
                obtain ⟨x, hx'⟩ : ∃ x, x = (dRoads bs n k s9).1 := ⟨_, rfl⟩
                obtain ⟨y, hy'⟩ : ∃ y, y = (dRoads bs n k s9).2.1 := ⟨_, rfl⟩
                obtain ⟨R, hR'⟩ : ∃ R, R = (dRoads bs n k s9).2.2.1 := ⟨_, rfl⟩
                obtain ⟨q, hq'⟩ : ∃ q, q = (dRoads bs n k s9).2.2.2 := ⟨_, rfl⟩
                rw [← hx'] at hx HN ⊢
                rw [← hy'] at hy0 hy1 HN ⊢
                rw [← hR'] at hR HN hI
                rw [← hq'] at HN hI
                clear hx' hy' hR' hq'
                obtain ⟨m, hm⟩ : ∃ x, x = (dBelow bs q n).1 := ⟨_, rfl⟩
                obtain ⟨q1, hq1⟩ : ∃ t, t = (dBelow bs q n).2 := ⟨_, rfl⟩
                have K33 : Hid (∀ w, DC B g w bs q → Calls Tryz.prog 26 #[.pointer (some ⟨g, 0, none⟩), .int .i64 (n : Int)] w fun e w' => e = .returned (.int .i64 (m : Int)) ∧ DC B g w' bs q1 ∧ w.grownBy w' (some g)) := fun w hd => by rw [hm, hq1]; exact belowD B g bs q n w hB hd hl (by omega) (by omega)
                have hmn : m < n := by rw [hm]; exact below_lt _ _ (by omega)
                obtain ⟨x', hx2⟩ : ∃ x', x' = if (n : Int) ≤ y + 1 + (m : Int) then x + 1 else x := ⟨_, rfl⟩
                obtain ⟨y', hy2⟩ : ∃ y', y' = if (n : Int) ≤ y + 1 + (m : Int) then y + 1 + (m : Int) - n else y + 1 + (m : Int) := ⟨_, rfl⟩
                have HS : Hid (stepRd bs n x y R q = if (x' : Int) ≠ y' ∧ x' < n then (x', y', R ++ [⟨(x' : Int), y', ((dBelow bs q1 40).1 : Int)⟩], (dBelow bs q1 40).2) else (x', y', R, q1)) := by
                  unfold Hid stepRd
                  simp only [← hm, ← hq1, ← hx2, ← hy2]
                have HX2 := Hid.mk hx2
                have HY2 := Hid.mk hy2
                have bx : x' ≤ k + 1 := by rw [hx2]; split <;> omega
                have by0 : 0 ≤ y' := by rw [hy2]; split <;> omega
                have by1 : y' < n := by rw [hy2]; split <;> omega
                clear hm hq1 hx2 hy2
                have k1 : (k : Int) < (kk : Int) := by omega
                have e30 : IntKind.i64.wrap (y + 1) = y + 1 := by rw [IntKind.wrap_i64]; omega
                have e31 : IntKind.i64.wrap (y + 1 + (m : Int)) = y + 1 + (m : Int) := by rw [IntKind.wrap_i64]; omega
                have e9 : IntKind.i64.wrap ((k : Int) + 1) = (k : Int) + 1 := by rw [IntKind.wrap_i64]; omega
                go_wp2_with fail
                refine (K33.out _ hI.out.d).mono ?_
                rintro e w22 ⟨rfl, d, gg⟩
                have J4 := Hid.mk (hI.out.call d gg hI1 hI2)
                clear d gg hI K33
                go_upto_if 114 with fail
                go_cut [17, 18] (fun a b wx => a = .int .i64 (x' : Int) ∧ b = .int .i64 y' ∧ wx = w22)
                case first =>
                  as_aux_lemma =>
                    by_cases hge : (n : Int) ≤ y + 1 + (m : Int)
                    · have hxx : x' = x + 1 := by rw [HX2.out, if_pos hge]
                      have hyy : y' = y + 1 + (m : Int) - n := by rw [HY2.out, if_pos hge]
                      have d1 : (y + 1 + (m : Int)) / (n : Int) = 1 := by rw [Int.ediv_eq_iff_of_pos (by omega)]; omega
                      have d2 : (y + 1 + (m : Int)) % (n : Int) = y + 1 + (m : Int) - n := by have := Int.mul_ediv_add_emod (y + 1 + (m : Int)) (n : Int); rw [d1] at this; omega
                      go_wp2_with fail
                      go_meet
                      exact ⟨by rw [hxx]; rfl, by rw [hyy, d2], rfl⟩
                    · have hge' : decide ((n : Int) ≤ y + 1 + (m : Int)) = false := by simpa using hge
                      have hxx : x' = x := by rw [HX2.out, if_neg hge]
                      have hyy : y' = y + 1 + (m : Int) := by rw [HY2.out, if_neg hge]
                      go_wp2_with fail
                      go_meet
                      exact ⟨by rw [hxx], by rw [hyy], rfl⟩
                case rest =>
                  obtain ⟨rfl, rfl, rfl⟩ := hcut
                  (rename ∀ (a : Act) (w : World), Code.wp _ _ _ a w → _ => hK0; refine hK0 _ _ ?_; clear hK0)
                  clear HX2 HY2
                  refine appSeg B g bs w _ hB hBs hl L1 L2 R q1 z1 z2 z n x' y' hnb by0 by1 (by omega) (by omega) hI1 hI2 J4 PP _ _ _ _ _ _ _ _ _ _ _ _ _ _ _ _ _ _ _ _ _ _ _ _ _ _ _ _ _ _ _ _ _ _ _ _ _ _ _ _ _ _ _ _ _ _ _ _ _ _ _ _ _ _ _ _ _ _ _ _ _ _ _ _ _ _ _ _ _ _ _ _ _ _ _ _ _ _ _ _ _ _ _ _ _ _ _ _ _ _ _ _ _ _ _ _ _ _ _ _ _ _ _ _ _ _ _ _ _ _ _ _ _ _ _ _ _ _ _ _ _ _ _ _ _ _ _ _ _ _ _ _ _ _ _ _ _ _ _ _ _ _ _ _ _ _ _ _ _ _ _ _ _ _ _ _ _ _ _ _ _ _ _ _ _ _ _ _ _ _ _ _ _ _ _ _ _ _ _ _ _ _ _ _ (by intro c a a' w e h; exact ⟨e.symm.trans h.1, h.2⟩) ?_
                  intro v125 v126 v127 v128 v129 v130 v131 v132 v133 v134 v135 v136 v137 v138 v139 v140 v141 v142 wx R' zz qq HE JX
                  have HZ : Hid (dRoads bs n (k + 1) s9 = (x', y', R', qq)) := by
                    unfold Hid
                    rw [HN.out, HS.out]
                    have he := HE.out
                    unfold Hid at he
                    split at he
                    · rename_i hc
                      rw [if_pos hc]; injection he with h1 h2; rw [h1, h2]
                    · rename_i hc
                      rw [if_neg hc]; injection he with h1 h2; rw [h1, h2]
                  clear HN HS HE J4
                  dsimp only [Exit.inBlock, Exit.then]
                  go_wp2_with fail
                  refine ⟨⟨k + 1, zz, by omega, by first | rfl | go_num, by rw [HZ.out], by rw [HZ.out], by rw [HZ.out]; exact JX⟩, by simp [intOf]; omega⟩
              · obtain rfl : kk = k := by omega
                go_wp2_with fail
                go_meet
                exact ⟨_, _, _, by have := (roads_bd bs n s9 (by omega) kk).2.2.2; omega, HRD, hI⟩
    case rest =>
      obtain ⟨R, z3, s9, hR, RQ, J3⟩ := hcut
      exact HKK.out _ _ _ _ _ _ _ _ _ _ _ _ _ _ _ _ _ _ _ _ _ _ _ _ _ _ _ _ _ _ _ _ _ _ _ _ _ _ _ _ _ _ _ _ _ _ _ _ _ _ _ _ _ _ _ _ _ _ _ _ _ _ _ _ _ _ _ _ _ _ _ _ _ _ _ _ _ _ _ _ _ _ _ _ _ _ _ _ _ _ _ _ _ _ _ _ _ _ _ _ _ _ _ _ _ _ _ _ _ _ _ _ _ _ _ _ _ _ _ _ _ _ _ _ _ _ _ _ _ _ _ _ _ _ _ _ _ _ _ _ _ _ _ _ _ _ _ _ _ _ _ _ _ _ _ _ _ _ _ _ _ _ _ _ _ _ _ _ _ _ wc R z3 s9 hR RQ J3
end Go.Proofs.YtefkdpppcjlflaaGreatDoor.Draw
namespace Go.Proofs.YtefkdpppcjlflaaGreatDoor.Draw
open Go Go.RowKit Go.Proofs.YtefkdpppcjlflaaGreatDoor.Mem Go.Proofs.YtefkdpppcjlflaaGreatDoor.Parse
set_option linter.unusedVariables false
set_option linter.unusedSimpArgs false
attribute [local go_sem ↓] Go.wp_at_zero Go.wp_at_succ

/-- The numbers of vehicles and requests. -/
def dHead (bs : List UInt8) (s : DS) (vs rs : Nat) : Nat × Nat × DS :=
  let s1 := (dBelow bs s vs).2
  let s2 := (dOnce bs s1 2).2
  let m := if (dOnce bs s1 2).1 then 1 + (dBelow bs s2 rs).1 else rs
  let s3 := if (dOnce bs s1 2).1 then (dBelow bs s2 rs).2 else s2
  let s4 := (dOnce bs s3 25).2
  (if (dOnce bs s3 25).1 then 0 else 1 + (dBelow bs s vs).1, if (dOnce bs s4 25).1 then 0 else m, (dOnce bs s4 25).2)
def dInst (bs : List UInt8) (s : DS) (vs rs : Nat) : Acc × DS := instTail bs (dHead bs s vs rs).1 (dHead bs s vs rs).2.1 (dHead bs s vs rs).2.2
set_option maxHeartbeats 6400000 in
set_option maxRecDepth 1000000 in
theorem finSeg (B g : Nat) (bs : List UInt8) (w wc : World) (hB : B ≤ g) (hBs : B ≤ w.heap.size) (s : DS) (vs rs : Nat) (L1f : List Veh) (L2f : List Req) (R : List Rd) (s11 : DS) (z1 z2 z3 : Value) (hI1 : w.heap.size + 1 ≠ g) (hI2 : w.heap.size ≠ g) (J7 : Hid (IS B g (w.heap.size + 1) w.heap.size w wc bs s11 z1 z2 z3 ⟨L1f, L2f, R⟩)) (HF : Hid (dInst bs s vs rs = (⟨L1f, L2f, R⟩, s11))) (u1 u2 u3 u4 u5 u8 u9 u10 u11 u12 u13 u14 u15 u16 u17 u18 u19 u20 u21 u22 u23 u24 u25 u26 u27 u28 u29 u30 u31 u32 u33 u34 u35 u36 u37 u38 u39 u40 u41 u42 u43 u44 u45 u46 u47 u48 u49 u50 u51 u52 u53 u54 u55 u56 u57 u58 u59 u60 u61 u62 u63 u64 u65 u66 u67 u68 u69 u70 u71 u72 u73 u74 u75 u76 u77 u78 u79 u80 u81 u82 u83 u84 u85 u86 u87 u88 u89 u90 u91 u92 u93 u94 u95 u96 u97 u98 u99 u100 u101 u102 u103 u104 u105 u106 u107 u108 u109 u110 u111 u112 u113 u114 u115 u116 u117 u118 u119 u120 u121 u122 u123 u124 u125 u126 u127 u128 u129 u130 u131 u132 u133 u134 u135 u136 u137 u138 u139 u140 u141 u142 u143 u144 u145 u146 u147 u148 u149 u150 u151 u152 u153 u154 u155 u156 u157 u158 u159 u160 u161 u162 u163 u164 u165 u166 u167 u168 u169 u170 u171 u172 u173 u174 u175 u176 u177 u178 u179 u180 u181 u182 u183 u184 u185 u186 u187 : Value) :
    Code.wp Tryz.prog (sR (sR (sR (sR (sR (sR (sR (sR (sR (sR (sR (sR (sR (Tryz.f10.body.getD .skip)))))))))))))) (bodyPost Tryz.prog Tryz.f10 (fun e w' => ∃ v1 v2 v3, e = .returned (.agg #[v1, v2, v3]) ∧ DC B g w' bs (dInst bs s vs rs).2 ∧ AccAt w.heap.size w' v1 v2 v3 (dInst bs s vs rs).1 ∧ w.grownBy w' (some g))) { tmps := #[.pointer (some ⟨g, 0, none⟩), u1, u2, u3, u4, u5, .pointer (some ⟨w.heap.size, 0, none⟩), .pointer (some ⟨w.heap.size + 1, 0, none⟩), u8, u9, u10, u11, u12, u13, u14, u15, u16, u17, u18, u19, u20, u21, u22, u23, u24, u25, u26, u27, u28, u29, u30, u31, u32, u33, u34, u35, u36, u37, u38, u39, u40, u41, u42, u43, u44, u45, u46, u47, u48, u49, u50, u51, u52, u53, u54, u55, u56, u57, u58, u59, u60, u61, u62, u63, u64, u65, u66, u67, u68, u69, u70, u71, u72, u73, u74, u75, u76, u77, u78, u79, u80, u81, u82, u83, u84, u85, u86, u87, u88, u89, u90, u91, u92, u93, u94, u95, u96, u97, u98, u99, u100, u101, u102, u103, u104, u105, u106, u107, u108, u109, u110, u111, u112, u113, u114, u115, u116, u117, u118, u119, u120, u121, u122, u123, u124, u125, u126, u127, u128, u129, u130, u131, u132, u133, u134, u135, u136, u137, u138, u139, u140, u141, u142, u143, u144, u145, u146, u147, u148, u149, u150, u151, u152, u153, u154, u155, u156, u157, u158, u159, u160, u161, u162, u163, u164, u165, u166, u167, u168, u169, u170, u171, u172, u173, u174, u175, u176, u177, u178, u179, u180, u181, u182, u183, u184, u185, u186, u187], defers := [] } wc := by
  dsimp only [Tryz.f10, Option.getD, sR, sL]
  obtain ⟨b1, l1, m1, e1⟩ : ∃ a n c, z1 = .slice a n c := by obtain ⟨a, c, h, -⟩ := row_shape J7.out.acc.v; exact ⟨_, _, _, h⟩
  obtain ⟨b2, l2, m2, e2⟩ : ∃ a n c, z2 = .slice a n c := by obtain ⟨a, c, h, -⟩ := row_shape J7.out.acc.q; exact ⟨_, _, _, h⟩
  obtain ⟨b3, l3, m3, e3⟩ : ∃ a n c, z3 = .slice a n c := by obtain ⟨a, c, h, -⟩ := row_shape J7.out.acc.r; exact ⟨_, _, _, h⟩
  subst e1 e2 e3
  have hne : w.heap.size ≠ w.heap.size + 1 := by omega
  have hne' : w.heap.size + 1 ≠ w.heap.size := by omega
  have r0 := (blk_cell J7.out.x 0).trans (show _ = some (.slice b1 l1 m1) from rfl)
  have r1 := (blk_cell J7.out.x 1).trans (show _ = some (.slice b2 l2 m2) from rfl)
  have r2 := (blk_cell J7.out.x 2).trans (show _ = some (.slice b3 l3 m3) from rfl)
  have u0 := (blk_cell J7.out.z 0).trans (show _ = some (.slice none 0 0) from rfl)
  have u1 := (blk_cell J7.out.z 1).trans (show _ = some (.slice none 0 0) from rfl)
  have u2 := (blk_cell J7.out.z 2).trans (show _ = some (.slice none 0 0) from rfl)
  have v0 := blk_unfrozen J7.out.z 0
  have v1 := blk_unfrozen J7.out.z 1
  have v2 := blk_unfrozen J7.out.z 2
  go_wp2
  clear r0 r1 r2 u0 u1 u2 v0 v1 v2
  obtain ⟨c1, c2, c3, c4⟩ := J7.out.ret hBs hI2 (Nat.le_refl _)
  clear J7
  obtain ⟨Y, hY⟩ : ∃ Y : World, Y = wc := ⟨_, rfl⟩
  rw [← hY] at c1 c2 c3 c4 ⊢
  obtain ⟨Z, hZ⟩ : ∃ Z : World, Z = ((Y.setCell ⟨w.heap.size, 0, none⟩ (.slice b1 l1 m1)).setCell ⟨w.heap.size, 1, none⟩ (.slice b2 l2 m2)).setCell ⟨w.heap.size, 2, none⟩ (.slice b3 l3 m3) := ⟨_, rfl⟩
  rw [← hZ] at c1 c2 c3 c4 ⊢
  clear hZ
  obtain ⟨s0, s1', s2'⟩ := rec3 c4
  refine bodyPost_ret (v := .agg #[.slice b1 l1 m1, .slice b2 l2 m2, .slice b3 l3 m3]) (by simp [results, Tryz.results10, go_sem, s0, s1', s2']; try rfl) rfl ⟨_, _, _, rfl, by rw [HF.out]; exact c1, by rw [HF.out]; exact c2, c3⟩
end Go.Proofs.YtefkdpppcjlflaaGreatDoor.Draw
namespace Go.Proofs.YtefkdpppcjlflaaGreatDoor.Draw
open Go Go.RowKit Go.Proofs.YtefkdpppcjlflaaGreatDoor.Mem Go.Proofs.YtefkdpppcjlflaaGreatDoor.Parse
set_option linter.unusedVariables false
set_option linter.unusedSimpArgs false

/-- A slice literal of one record. -/
theorem wpList_build1 {P : Program} {ops : Array Oper} {rest : List Oper} {o : Oper} {a : Act} {w : World} {Q : Exit → Act → World → Prop} (hg : o.guard = none) (t e : TypeId) (x : Operand) (ho : o.op = .buildSlice t 1 #[(0, x)])
    (ie : TypeInfo) (z : Value) (hu : P.underlying t = some (.slice e)) (hie : P.info? e = some ie) (hz : ie.zero = some z) (sz : Nat) (hs : ie.size = sz) (vs : List Value) (hx : a.eval x = .agg vs.toArray)
    (hf : Instr.fill (fun i => some (i * sz, sz)) ((Array.range (1 * sz)).map (z.cells[· % z.cells.size]!)) [(0, .agg vs.toArray)] = some vs.toArray) (h0 : 0 < sz) (h1 : sz ≤ 1000)
    (h : wpList P ops Q rest (a.put o.dst (.slice (some ⟨w.heap.size, 0, none⟩) 1 1)) (w.alloc (.cells vs.toArray e))) : wpList P ops Q (o :: rest) a w := by
  refine wpList_buildSlice hg t e 1 _ ho vs.toArray ie z hu hie hz (by rw [hs]; omega) (by rw [hs]; omega) ?_ h
  rw [hs]
  simpa [hx] using hf
theorem fill7 (a b c d e f g : Int) : Instr.fill (fun i => some (i * 7, 7)) ((Array.range (1 * 7)).map ((Value.agg #[.int .i64 0, .int .i64 0, .int .i64 0, .int .i64 0, .int .i64 0, .int .i64 0, .int .i64 0]).cells[· % (Value.agg #[.int .i64 0, .int .i64 0, .int .i64 0, .int .i64 0, .int .i64 0, .int .i64 0, .int .i64 0]).cells.size]!)) [(0, .agg [Value.int .i64 a, .int .i64 b, .int .i64 c, .int .i64 d, .int .i64 e, .int .i64 f, .int .i64 g].toArray)] = some [Value.int .i64 a, .int .i64 b, .int .i64 c, .int .i64 d, .int .i64 e, .int .i64 f, .int .i64 g].toArray := by kernel_rfl
theorem fill12 (a b c d e f g a' b' c' d' e' : Int) : Instr.fill (fun i => some (i * 12, 12)) ((Array.range (1 * 12)).map ((Value.agg #[.int .i64 0, .int .i64 0, .int .i64 0, .int .i64 0, .int .i64 0, .int .i64 0, .int .i64 0, .int .i64 0, .int .i64 0, .int .i64 0, .int .i64 0, .int .i64 0]).cells[· % (Value.agg #[.int .i64 0, .int .i64 0, .int .i64 0, .int .i64 0, .int .i64 0, .int .i64 0, .int .i64 0, .int .i64 0, .int .i64 0, .int .i64 0, .int .i64 0, .int .i64 0]).cells.size]!)) [(0, .agg [Value.int .i64 a, .int .i64 b, .int .i64 c, .int .i64 d, .int .i64 e, .int .i64 f, .int .i64 g, .int .i64 a', .int .i64 b', .int .i64 c', .int .i64 d', .int .i64 e'].toArray)] = some [Value.int .i64 a, .int .i64 b, .int .i64 c, .int .i64 d, .int .i64 e, .int .i64 f, .int .i64 g, .int .i64 a', .int .i64 b', .int .i64 c', .int .i64 d', .int .i64 e'].toArray := by kernel_rfl
theorem fill3 (a b c : Int) : Instr.fill (fun i => some (i * 3, 3)) ((Array.range (1 * 3)).map ((Value.agg #[.int .i64 0, .int .i64 0, .int .i64 0]).cells[· % (Value.agg #[.int .i64 0, .int .i64 0, .int .i64 0]).cells.size]!)) [(0, .agg [Value.int .i64 a, .int .i64 b, .int .i64 c].toArray)] = some [Value.int .i64 a, .int .i64 b, .int .i64 c].toArray := by kernel_rfl
end Go.Proofs.YtefkdpppcjlflaaGreatDoor.Draw
