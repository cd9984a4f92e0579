import Derived.Test.YtefkdpppcjlflaaGreatDoorIt16
import Derived.Deep.DeepCutAuto
namespace Go.Proofs.YtefkdpppcjlflaaGreatDoor.Draw
open Go Go.RowKit Go.Proofs.YtefkdpppcjlflaaGreatDoor.Mem Go.Proofs.YtefkdpppcjlflaaGreatDoor.Parse
set_option linter.unusedVariables false
set_option linter.unusedSimpArgs false
attribute [local go_sem ↓] Go.wp_at_zero Go.wp_at_succ

set_option maxHeartbeats 6400000 in
set_option maxRecDepth 1000000 in
theorem limSeg2 (B g : Nat) (bs : List UInt8) (w wc : World) (hB : B ≤ g) (hBs : B ≤ w.heap.size) (hl : bs.length ≤ 1048576) (hgl : g < w.heap.size) (nv nr : Nat) (hnbnv : Hid (nv ≤ 60)) (hnbnr : Hid (nr ≤ 900)) (hI1 : w.heap.size + 1 ≠ g) (hI2 : w.heap.size ≠ g) (s10 : DS) (z1 z2 z3 : Value) (L1f : List Veh) (L2 : List Req) (R : List Rd) (HL2 : Hid (nr = L2.length)) (J6 : Hid (IS B g (w.heap.size + 1) w.heap.size w wc bs s10 z1 z2 z3 ⟨L1f, L2, R⟩)) (PP : Ending → World → Prop) (u1 u2 u3 u4 u5 u10 u11 u12 u13 u14 u15 u16 u17 u18 u19 u20 u21 u22 u23 u24 u25 u26 u27 u28 u29 u30 u31 u32 u33 u34 u35 u36 u37 u38 u39 u40 u41 u42 u43 u44 u45 u46 u47 u48 u49 u50 u51 u52 u53 u54 u55 u56 u57 u58 u59 u60 u61 u62 u63 u64 u65 u66 u67 u68 u69 u70 u71 u72 u73 u74 u75 u76 u77 u78 u79 u80 u81 u82 u83 u84 u85 u86 u87 u88 u89 u90 u91 u92 u93 u94 u95 u96 u97 u98 u99 u100 u101 u102 u103 u104 u105 u106 u107 u108 u109 u110 u111 u112 u113 u114 u115 u116 u117 u118 u119 u120 u121 u122 u123 u124 u125 u126 u127 u128 u129 u130 u131 u132 u133 u134 u135 u136 u137 u138 u139 u140 u141 u142 u143 u144 u145 u146 u147 u148 u149 u150 u151 u152 u153 u154 u155 u156 u157 u158 u159 u160 u161 u162 u163 u164 u165 u166 u167 u168 u169 u170 u171 u172 u173 u174 u175 u176 u177 u178 u179 u180 u181 u182 u183 u184 u185 u186 u187 : Value) (K : Act → World → Prop) (hK : ∀ (v1 v2 v3 v4 v5 v10 v11 v12 v13 v14 v15 v16 v17 v18 v19 v20 v21 v22 v23 v24 v25 v26 v27 v28 v29 v30 v31 v32 v33 v34 v35 v36 v37 v38 v39 v40 v41 v42 v43 v44 v45 v46 v47 v48 v49 v50 v51 v52 v53 v54 v55 v56 v57 v58 v59 v60 v61 v62 v63 v64 v65 v66 v67 v68 v69 v70 v71 v72 v73 v74 v75 v76 v77 v78 v79 v80 v81 v82 v83 v84 v85 v86 v87 v88 v89 v90 v91 v92 v93 v94 v95 v96 v97 v98 v99 v100 v101 v102 v103 v104 v105 v106 v107 v108 v109 v110 v111 v112 v113 v114 v115 v116 v117 v118 v119 v120 v121 v122 v123 v124 v125 v126 v127 v128 v129 v130 v131 v132 v133 v134 v135 v136 v137 v138 v139 v140 v141 v142 v143 v144 v145 v146 v147 v148 v149 v150 v151 v152 v153 v154 v155 v156 v157 v158 v159 v160 v161 v162 v163 v164 v165 v166 v167 v168 v169 v170 v171 v172 v173 v174 v175 v176 v177 v178 v179 v180 v181 v182 v183 v184 v185 v186 v187 : Value) (wx : World) (LL : List Req) (q : DS), Hid (limQ bs s10 L2 = (LL, q)) → Hid (nr = LL.length) → Hid (IS B g (w.heap.size + 1) w.heap.size w wx bs q z1 z2 z3 ⟨L1f, LL, R⟩) → K { tmps := #[.pointer (some ⟨g, 0, none⟩), v1, v2, v3, v4, v5, .pointer (some ⟨w.heap.size, 0, none⟩), .pointer (some ⟨w.heap.size + 1, 0, none⟩), .int .i64 (nv : Int), .int .i64 (nr : Int), v10, v11, v12, v13, v14, v15, v16, v17, v18, v19, v20, v21, v22, v23, v24, v25, v26, v27, v28, v29, v30, v31, v32, v33, v34, v35, v36, v37, v38, v39, v40, v41, v42, v43, v44, v45, v46, v47, v48, v49, v50, v51, v52, v53, v54, v55, v56, v57, v58, v59, v60, v61, v62, v63, v64, v65, v66, v67, v68, v69, v70, v71, v72, v73, v74, v75, v76, v77, v78, v79, v80, v81, v82, v83, v84, v85, v86, v87, v88, v89, v90, v91, v92, v93, v94, v95, v96, v97, v98, v99, v100, v101, v102, v103, v104, v105, v106, v107, v108, v109, v110, v111, v112, v113, v114, v115, v116, v117, v118, v119, v120, v121, v122, v123, v124, v125, v126, v127, v128, v129, v130, v131, v132, v133, v134, v135, v136, v137, v138, v139, v140, v141, v142, v143, v144, v145, v146, v147, v148, v149, v150, v151, v152, v153, v154, v155, v156, v157, v158, v159, v160, v161, v162, v163, v164, v165, v166, v167, v168, v169, v170, v171, v172, v173, v174, v175, v176, v177, v178, v179, v180, v181, v182, v183, v184, v185, v186, v187], defers := [] } wx) :
    Code.wp Tryz.prog (sL (sR (sR (sR (sR (sR (sR (sR (sR (sR (sR (sR (sR (Tryz.f10.body.getD .skip)))))))))))))) (Exit.then K (bodyPost Tryz.prog Tryz.f10 PP)) { tmps := #[.pointer (some ⟨g, 0, none⟩), u1, u2, u3, u4, u5, .pointer (some ⟨w.heap.size, 0, none⟩), .pointer (some ⟨w.heap.size + 1, 0, none⟩), .int .i64 (nv : Int), .int .i64 (nr : Int), u10, u11, u12, u13, u14, u15, u16, u17, u18, u19, u20, u21, u22, u23, u24, u25, u26, u27, u28, u29, u30, u31, u32, u33, u34, u35, u36, u37, u38, u39, u40, u41, u42, u43, u44, u45, u46, u47, u48, u49, u50, u51, u52, u53, u54, u55, u56, u57, u58, u59, u60, u61, u62, u63, u64, u65, u66, u67, u68, u69, u70, u71, u72, u73, u74, u75, u76, u77, u78, u79, u80, u81, u82, u83, u84, u85, u86, u87, u88, u89, u90, u91, u92, u93, u94, u95, u96, u97, u98, u99, u100, u101, u102, u103, u104, u105, u106, u107, u108, u109, u110, u111, u112, u113, u114, u115, u116, u117, u118, u119, u120, u121, u122, u123, u124, u125, u126, u127, u128, u129, u130, u131, u132, u133, u134, u135, u136, u137, u138, u139, u140, u141, u142, u143, u144, u145, u146, u147, u148, u149, u150, u151, u152, u153, u154, u155, u156, u157, u158, u159, u160, u161, u162, u163, u164, u165, u166, u167, u168, u169, u170, u171, u172, u173, u174, u175, u176, u177, u178, u179, u180, u181, u182, u183, u184, u185, u186, u187], defers := [] } wc := by
  conv =>
    arg 2
    dsimp only [Tryz.f10, Option.getD, sR, sL]
  conv =>
    arg 4
    dsimp only
  dsimp only at hK
  have HKK := Hid.mk hK
  clear hK
  obtain ⟨oo, hoo⟩ : ∃ x, x = (dOnce bs s10 10).1 := ⟨_, rfl⟩
  obtain ⟨t1, ht1⟩ : ∃ x, x = (dOnce bs s10 10).2 := ⟨_, rfl⟩
  have HOO := Hid.mk (And.intro hoo ht1)
  have K43 : Hid (∀ w, DC B g w bs s10 → Calls Tryz.prog 25 #[.pointer (some ⟨g, 0, none⟩), .int .i64 10] w fun e w' => e = .returned (.bool oo) ∧ DC B g w' bs t1 ∧ w.grownBy w' (some g)) := fun w hd => by rw [hoo, ht1]; exact onceD B g bs s10 10 w hB hd hl (by omega) (by omega)
  clear hoo ht1
  go_upto_region 46 with fail
  go_cut [170] (fun v wx => ∃ o : Bool, v = .bool o ∧ Hid (o = (oo && decide (0 < nr))) ∧ Hid (IS B g (w.heap.size + 1) w.heap.size w wx bs t1 z1 z2 z3 ⟨L1f, L2, R⟩))
  case first =>
    as_aux_lemma =>
      go_wp2_with fail
      refine (K43.out _ J6.out.d).mono ?_
      rintro e w30 ⟨rfl, d, gg⟩
      have J4 := Hid.mk (J6.out.call d gg hI1 hI2)
      clear d gg J6 K43
      cases oo with
      | false =>
        go_wp2_with fail
        go_meet
        exact ⟨false, rfl, by unfold Hid; simp, J4⟩
      | true =>
        by_cases hp : 0 < nr
        · have hp1 : (0 : Int) < (nr : Int) := by omega
          go_wp2_with fail
          go_meet
          exact ⟨true, rfl, by unfold Hid; simp [hp], J4⟩
        · have hp1 : decide ((0 : Int) < (nr : Int)) = false := by simp; omega
          go_wp2_with fail
          go_meet
          exact ⟨false, rfl, by unfold Hid; simp [hp], J4⟩
  case rest =>
    obtain ⟨ob, rfl, HOB, J4⟩ := hcut
    (rename ∀ (a : Act) (w : World), Code.wp _ _ _ a w → _ => hK0; refine hK0 _ _ ?_; clear hK0)
    clear J6 K43
    go_upto_if 170 with fail
    go_cut [] (fun wx => ∃ (LL : List Req) (q : DS), Hid (limQ bs s10 L2 = (LL, q)) ∧ Hid (nr = LL.length) ∧ Hid (IS B g (w.heap.size + 1) w.heap.size w wx bs q z1 z2 z3 ⟨L1f, LL, R⟩))
    case first =>
      as_aux_lemma =>
        cases ob with
        | false =>
          go_wp2_with fail
          go_meet
          refine ⟨L2, t1, ?_, HL2, J4⟩
          unfold Hid limQ
          have ho := HOB.out
          simp only [← HOO.out.1, ← HOO.out.2]
          rw [if_neg (by rintro ⟨h1, h2⟩; rw [← HL2.out] at h2; rw [h1] at ho; simp [h2] at ho)]
        | true =>
          have hp : 0 < nr := by have ho := HOB.out; simp at ho; omega
          have hot : oo = true := by have ho := HOB.out; simp at ho; exact ho.1
          have hp1 : (0 : Int) < (nr : Int) := by omega
          obtain ⟨j, hj⟩ : ∃ x, x = (dBelow bs t1 nr).1 := ⟨_, rfl⟩
          obtain ⟨t2, ht2⟩ : ∃ x, x = (dBelow bs t1 nr).2 := ⟨_, rfl⟩
          have K44 : Hid (∀ w, DC B g w bs t1 → Calls Tryz.prog 26 #[.pointer (some ⟨g, 0, none⟩), .int .i64 (nr : Int)] w fun e w' => e = .returned (.int .i64 (j : Int)) ∧ DC B g w' bs t2 ∧ w.grownBy w' (some g)) := fun w hd => by rw [hj, ht2]; exact belowD B g bs t1 nr w hB hd hl hp (by have := hnbnr.out; omega)
          have hjn : j < nr := by rw [hj]; exact below_lt _ _ hp
          obtain ⟨v, hv⟩ : ∃ v, v = L2.getD j zQ := ⟨_, rfl⟩
          obtain ⟨p, hpp⟩ : ∃ p, p = (dLimits bs t2 (Req.from' v)).1 := ⟨_, rfl⟩
          obtain ⟨t3, ht3⟩ : ∃ p, p = (dLimits bs t2 (Req.from' v)).2 := ⟨_, rfl⟩
          have HV : Hid (L2[j]? = some v) := by unfold Hid; rw [hv, List.getD_eq_getElem?_getD, List.getElem?_eq_getElem (by rw [← HL2.out]; exact hjn)]; rfl
          have HLM : Hid (limQ bs s10 L2 = (L2.set j (Req.put v p), t3)) := by
            unfold Hid limQ
            simp only [← HOO.out.1, ← HOO.out.2, ← HL2.out, ← hj, ← ht2, ← hv, ← hpp, ← ht3]
            rw [if_pos ⟨hot, hp⟩]
          have K45 : Hid (∀ w, B ≤ w.heap.size → DC B g w bs t2 → Calls Tryz.prog 29 #[.pointer (some ⟨g, 0, none⟩), .agg (Req.from' v).vals] w fun e w' => e = .returned (.agg p.vals) ∧ DC B g w' bs t3 ∧ w.grownBy w' (some g)) := fun w hw hd => by rw [hpp, ht3]; exact limitsD B g bs t2 (Req.from' v) w hB hw hd hl
          clear hj ht2 hv hpp ht3
          go_wp2_with fail
          refine (K44.out _ J4.out.d).mono ?_
          rintro e w31 ⟨rfl, d, gg⟩
          have J5 := Hid.mk (J4.out.call d gg hI1 hI2)
          clear d gg J4 K44
          obtain ⟨gv, cv, hzv⟩ : ∃ gv cv, z2 = .slice (some ⟨gv, 0, none⟩) nr cv := by
            have := J5.out.acc.q
            simp only at this
            rw [← HL2.out] at this
            rcases this.2 with ⟨h1, h2⟩ | ⟨b, cap, cur, h1, -⟩
            · omega
            · exact ⟨b, cap, h1⟩
          subst hzv
          have RW : Hid (w31.ownsRow w.heap.size 48 12 (.slice (some ⟨gv, 0, none⟩) nr cv) nr (L2.flatMap Req.cells)) := by
            unfold Hid; have := J5.out.acc.q; simp only at this; rw [← HL2.out] at this; exact this
          go_upto_region 48 with fail
          obtain ⟨Wq, hWq, JD⟩ : ∃ X : World, X = w31.drew ∧ Hid (IS B g (w.heap.size + 1) w.heap.size w X bs t2 z1 (.slice (some ⟨gv, 0, none⟩) nr cv) z3 ⟨L1f, L2, R⟩) := ⟨_, rfl, J5.out.below (Nat.le_trans hBs J5.out.gb.size) (Below.refl _ _).drew⟩
          have RQ : Wq.ownsRow w.heap.size 48 12 (.slice (some ⟨gv, 0, none⟩) nr cv) nr (L2.flatMap Req.cells) := by rw [hWq]; exact row_below RW.out (Below.refl _ _).drew
          have C9 : Hid (Wq.cell? ⟨gv, j * 12 + 2, none⟩ = some (.int .i64 v.x) ∧ Wq.cell? ⟨gv, j * 12 + 3, none⟩ = some (.int .i64 v.y) ∧ Wq.cell? ⟨gv, j * 12 + 4, none⟩ = some (.int .i64 v.o) ∧ Wq.cell? ⟨gv, j * 12 + 5, none⟩ = some (.int .i64 v.c) ∧ Wq.cell? ⟨gv, j * 12 + 6, none⟩ = some (.int .i64 v.h)) := ⟨(row_cell RQ (i := j * 12 + 2) (u := .int .i64 v.x) ((flat_at Req.len j L2 v 2 HV.out (by decide)).trans rfl)).1, (row_cell RQ (i := j * 12 + 3) (u := .int .i64 v.y) ((flat_at Req.len j L2 v 3 HV.out (by decide)).trans rfl)).1, (row_cell RQ (i := j * 12 + 4) (u := .int .i64 v.o) ((flat_at Req.len j L2 v 4 HV.out (by decide)).trans rfl)).1, (row_cell RQ (i := j * 12 + 5) (u := .int .i64 v.c) ((flat_at Req.len j L2 v 5 HV.out (by decide)).trans rfl)).1, (row_cell RQ (i := j * 12 + 6) (u := .int .i64 v.h) ((flat_at Req.len j L2 v 6 HV.out (by decide)).trans rfl)).1⟩
          clear J5 RW RQ
          refine wp_region_held_drew (S := (fun w' => w'.cell? ⟨w.heap.size + 1, 1, none⟩ = some (.slice (some ⟨gv, 0, none⟩) nr cv))) (by kernel_rfl) ?_ (fun hHeld => ?_)
          · rw [← hWq]; exact (blk_cell JD.out.x 1).trans rfl
          rw [← hWq] at hHeld ⊢
          clear hWq
          refine wpAnyH_take (i := 0) (v := ?_) rfl (by kernel_rfl) (by kernel_rfl) (by kernel_rfl) (fun _ _ _ h => h) (Or.inl ⟨by rfl, ?_⟩) (by assumption) ?_
          rotate_left
          · intro w hSw; (try dsimp only at hSw); go_simp; (try with_reducible rfl)
          rotate_left
          simp only [Act.put, List.setIfInBounds_toArray, List.set_cons_zero, List.set_cons_succ, List.getElem_toArray, List.getElem_cons_zero, List.getElem_cons_succ]
          refine wpAnyH_take (i := 1) (v := ?_) rfl (by kernel_rfl) (by kernel_rfl) (by kernel_rfl) (fun _ _ _ h => h) (Or.inl ⟨by rfl, ?_⟩) (by assumption) ?_
          rotate_left
          · intro w hSw; (try dsimp only at hSw); go_simp; (try with_reducible rfl)
          rotate_left
          simp only [Act.put, List.setIfInBounds_toArray, List.set_cons_zero, List.set_cons_succ, List.getElem_toArray, List.getElem_cons_zero, List.getElem_cons_succ]
          refine wpAnyH_take (i := 2) (v := ?_) rfl (by kernel_rfl) (by kernel_rfl) (by kernel_rfl) (fun _ _ _ h => h) (Or.inl ⟨by rfl, ?_⟩) (by assumption) ?_
          rotate_left
          · intro w hSw; (try dsimp only at hSw); go_simp; (try with_reducible rfl)
          rotate_left
          simp only [Act.put, List.setIfInBounds_toArray, List.set_cons_zero, List.set_cons_succ, List.getElem_toArray, List.getElem_cons_zero, List.getElem_cons_succ]
          refine wpAnyH_take (i := 3) (v := ?_) rfl (by kernel_rfl) (by kernel_rfl) (by kernel_rfl) (fun _ _ _ h => h) (Or.inl ⟨by rfl, ?_⟩) (by assumption) ?_
          rotate_left
          · intro w hSw; (try dsimp only at hSw); go_simp; (try with_reducible rfl)
          rotate_left
          simp only [Act.put, List.setIfInBounds_toArray, List.set_cons_zero, List.set_cons_succ, List.getElem_toArray, List.getElem_cons_zero, List.getElem_cons_succ]
          refine wpAnyH_take (i := 4) (v := ?_) rfl (by kernel_rfl) (by kernel_rfl) (by kernel_rfl) (fun _ _ _ h => h) (Or.inl ⟨by rfl, ?_⟩) (by assumption) ?_
          rotate_left
          · intro w hSw; (try dsimp only at hSw); go_simp; (try with_reducible rfl)
          rotate_left
          simp only [Act.put, List.setIfInBounds_toArray, List.set_cons_zero, List.set_cons_succ, List.getElem_toArray, List.getElem_cons_zero, List.getElem_cons_succ]
          refine wpAnyH_take (i := 5) (v := ?_) rfl (by kernel_rfl) (by kernel_rfl) (by kernel_rfl) (fun _ _ _ h => h) (Or.inl ⟨by rfl, ?_⟩) (by assumption) ?_
          rotate_left
          · intro w hSw; (try dsimp only at hSw); go_simp; (try with_reducible rfl)
          rotate_left
          simp only [Act.put, List.setIfInBounds_toArray, List.set_cons_zero, List.set_cons_succ, List.getElem_toArray, List.getElem_cons_zero, List.getElem_cons_succ]
          refine wpAnyH_take (i := 6) (v := ?_) rfl (by kernel_rfl) (by kernel_rfl) (by kernel_rfl) (fun _ _ _ h => h) (Or.inl ⟨by rfl, ?_⟩) (by assumption) ?_
          rotate_left
          · intro w hSw; (try dsimp only at hSw); go_simp; (try with_reducible rfl)
          rotate_left
          simp only [Act.put, List.setIfInBounds_toArray, List.set_cons_zero, List.set_cons_succ, List.getElem_toArray, List.getElem_cons_zero, List.getElem_cons_succ]
          refine wpAnyH_take (i := 7) (v := ?_) rfl (by kernel_rfl) (by kernel_rfl) (by kernel_rfl) (fun _ _ _ h => h) (Or.inl ⟨by rfl, ?_⟩) (by assumption) ?_
          rotate_left
          · intro w hSw; (try dsimp only at hSw); go_simp; (try with_reducible rfl)
          rotate_left
          simp only [Act.put, List.setIfInBounds_toArray, List.set_cons_zero, List.set_cons_succ, List.getElem_toArray, List.getElem_cons_zero, List.getElem_cons_succ]
          refine wpAnyH_take (i := 8) (v := ?_) rfl (by kernel_rfl) (by kernel_rfl) (by kernel_rfl) (fun _ _ _ h => h) (Or.inl ⟨by rfl, ?_⟩) (by assumption) ?_
          rotate_left
          · intro w hSw; (try dsimp only at hSw); go_simp; (try with_reducible rfl)
          rotate_left
          simp only [Act.put, List.setIfInBounds_toArray, List.set_cons_zero, List.set_cons_succ, List.getElem_toArray, List.getElem_cons_zero, List.getElem_cons_succ]
          refine wpAnyH_ready (rs := [9]) (by kernel_rfl) (by simp) ?_
          refine AllReadyH.cons rfl (fun K hK => ?_) ?_
          · obtain ⟨c2, c3, c4, c5, c6⟩ := C9.out
            go_simp
            clear c2 c3 c4 c5 c6 C9
            refine hK.out _ _ ?_ (fun hHeld => ?_)
            · exact (blk_cell JD.out.x 1).trans rfl
            clear hK K
            (try simp only [Act.put, List.setIfInBounds_toArray, List.set_cons_zero, List.set_cons_succ, List.getElem_toArray, List.getElem_cons_zero, List.getElem_cons_succ])
            refine wpAnyH_ready (rs := [10]) (by kernel_rfl) (by simp) ?_
            refine AllReadyH.cons rfl (fun K hK => ?_) ?_
            · go_simp
              refine (K45.out _ (Nat.le_trans hBs JD.out.gb.size) JD.out.d).mono ?_
              rintro e w32 ⟨rfl, d, gg⟩
              have JD := Hid.mk (JD.out.call d gg hI1 hI2)
              clear d gg
              have RQ : w32.ownsRow w.heap.size 48 12 (.slice (some ⟨gv, 0, none⟩) nr cv) nr (L2.flatMap Req.cells) := by have := JD.out.acc.q; simp only at this; rw [← HL2.out] at this; exact this
              have C13 : Hid (w32.cell? ⟨gv, j * 12 + 2, none⟩ = some (.int .i64 v.x) ∧ w32.frozen? ⟨gv, j * 12 + 2, none⟩ = false ∧ w32.cell? ⟨gv, j * 12 + 3, none⟩ = some (.int .i64 v.y) ∧ w32.frozen? ⟨gv, j * 12 + 3, none⟩ = false ∧ w32.cell? ⟨gv, j * 12 + 4, none⟩ = some (.int .i64 v.o) ∧ w32.frozen? ⟨gv, j * 12 + 4, none⟩ = false ∧ w32.cell? ⟨gv, j * 12 + 5, none⟩ = some (.int .i64 v.c) ∧ w32.frozen? ⟨gv, j * 12 + 5, none⟩ = false ∧ w32.cell? ⟨gv, j * 12 + 6, none⟩ = some (.int .i64 v.h) ∧ w32.frozen? ⟨gv, j * 12 + 6, none⟩ = false) := ⟨(row_cell RQ (i := j * 12 + 2) (u := .int .i64 v.x) ((flat_at Req.len j L2 v 2 HV.out (by decide)).trans rfl)).1, (row_cell RQ (i := j * 12 + 2) (u := .int .i64 v.x) ((flat_at Req.len j L2 v 2 HV.out (by decide)).trans rfl)).2, (row_cell RQ (i := j * 12 + 3) (u := .int .i64 v.y) ((flat_at Req.len j L2 v 3 HV.out (by decide)).trans rfl)).1, (row_cell RQ (i := j * 12 + 3) (u := .int .i64 v.y) ((flat_at Req.len j L2 v 3 HV.out (by decide)).trans rfl)).2, (row_cell RQ (i := j * 12 + 4) (u := .int .i64 v.o) ((flat_at Req.len j L2 v 4 HV.out (by decide)).trans rfl)).1, (row_cell RQ (i := j * 12 + 4) (u := .int .i64 v.o) ((flat_at Req.len j L2 v 4 HV.out (by decide)).trans rfl)).2, (row_cell RQ (i := j * 12 + 5) (u := .int .i64 v.c) ((flat_at Req.len j L2 v 5 HV.out (by decide)).trans rfl)).1, (row_cell RQ (i := j * 12 + 5) (u := .int .i64 v.c) ((flat_at Req.len j L2 v 5 HV.out (by decide)).trans rfl)).2, (row_cell RQ (i := j * 12 + 6) (u := .int .i64 v.h) ((flat_at Req.len j L2 v 6 HV.out (by decide)).trans rfl)).1, (row_cell RQ (i := j * 12 + 6) (u := .int .i64 v.h) ((flat_at Req.len j L2 v 6 HV.out (by decide)).trans rfl)).2⟩
              clear RQ
              simp only [Pl.vals]
              refine hK.out _ _ ?_ (fun hHeld => ?_)
              · exact (blk_cell JD.out.x 1).trans rfl
              clear hK K
              (try simp only [Act.put, List.setIfInBounds_toArray, List.set_cons_zero, List.set_cons_succ, List.getElem_toArray, List.getElem_cons_zero, List.getElem_cons_succ])
              refine wpAnyH_take (i := 11) (v := ?_) rfl (by kernel_rfl) (by kernel_rfl) (by kernel_rfl) (fun _ _ _ h => h) (Or.inl ⟨by rfl, ?_⟩) (by assumption) ?_
              rotate_left
              · intro w hSw; (try dsimp only at hSw); go_simp; (try with_reducible rfl)
              rotate_left
              simp only [Act.put, List.setIfInBounds_toArray, List.set_cons_zero, List.set_cons_succ, List.getElem_toArray, List.getElem_cons_zero, List.getElem_cons_succ]
              refine wpAnyH_take (i := 12) (v := ?_) rfl (by kernel_rfl) (by kernel_rfl) (by kernel_rfl) (fun _ _ _ h => h) (Or.inl ⟨by rfl, ?_⟩) (by assumption) ?_
              rotate_left
              · intro w hSw; (try dsimp only at hSw); go_simp; (try with_reducible rfl)
              rotate_left
              simp only [Act.put, List.setIfInBounds_toArray, List.set_cons_zero, List.set_cons_succ, List.getElem_toArray, List.getElem_cons_zero, List.getElem_cons_succ]
              refine wpAnyH_ready (rs := [13]) (by kernel_rfl) (by simp) ?_
              refine AllReadyH.cons rfl (fun K hK => ?_) ?_
              · obtain ⟨c2, f2, c3, f3, c4, f4, c5, f5, c6, f6⟩ := C13.out
                go_simp
                have JD := Hid.mk (JD.out.limQ (p := p) HL2.out HV.out hBs)
                refine hK.out _ _ ?_ (fun hHeld => ?_)
                · with_reducible exact (blk_cell JD.out.x 1).trans rfl
                clear hK K
                (try simp only [Act.put, List.setIfInBounds_toArray, List.set_cons_zero, List.set_cons_succ, List.getElem_toArray, List.getElem_cons_zero, List.getElem_cons_succ])
                refine wpAnyH_done (by kernel_rfl) ?_ _
                go_wp2_with fail
                go_meet
                with_reducible exact ⟨_, _, HLM, by unfold Hid; rw [List.length_set]; exact HL2.out, JD⟩
              exact AllReadyH.nil
            exact AllReadyH.nil
          exact AllReadyH.nil
    case rest =>
      obtain ⟨L2f, s11, LQ, HL2f, J7⟩ := hcut
      exact HKK.out _ _ _ _ _ _ _ _ _ _ _ _ _ _ _ _ _ _ _ _ _ _ _ _ _ _ _ _ _ _ _ _ _ _ _ _ _ _ _ _ _ _ _ _ _ _ _ _ _ _ _ _ _ _ _ _ _ _ _ _ _ _ _ _ _ _ _ _ _ _ _ _ _ _ _ _ _ _ _ _ _ _ _ _ _ _ _ _ _ _ _ _ _ _ _ _ _ _ _ _ _ _ _ _ _ _ _ _ _ _ _ _ _ _ _ _ _ _ _ _ _ _ _ _ _ _ _ _ _ _ _ _ _ _ _ _ _ _ _ _ _ _ _ _ _ _ _ _ _ _ _ _ _ _ _ _ _ _ _ _ _ _ _ _ _ _ _ _ _ _ _ _ _ _ _ _ _ _ _ _ _ _ _ wc L2f s11 LQ HL2f J7
end Go.Proofs.YtefkdpppcjlflaaGreatDoor.Draw
