import Derived.Test.YtefkdpppcjlflaaGreatDoorIt16
import Derived.Test.YtefkdpppcjlflaaGreatDoorIt17
import Derived.Deep.DeepCutAuto
namespace Go.Proofs.YtefkdpppcjlflaaGreatDoor.Draw
open Go Go.RowKit Go.Proofs.YtefkdpppcjlflaaGreatDoor.Mem Go.Proofs.YtefkdpppcjlflaaGreatDoor.Parse
set_option linter.unusedVariables false
set_option linter.unusedSimpArgs false
attribute [local go_sem ↓] Go.wp_at_zero Go.wp_at_succ

set_option maxHeartbeats 6400000 in
set_option maxRecDepth 1000000 in
theorem vehSeg (B g : Nat) (bs : List UInt8) (w wc : World) (hB : B ≤ g) (hBs : B ≤ w.heap.size) (hl : bs.length ≤ 1048576) (hgl : g < w.heap.size) (nv nr : Nat) (hnbnv : Hid (nv ≤ 60)) (hnbnr : Hid (nr ≤ 900)) (hI1 : w.heap.size + 1 ≠ g) (hI2 : w.heap.size ≠ g) (s5 : DS) (I5 : Hid (IS B g (w.heap.size + 1) w.heap.size w wc bs s5 (.slice none 0 0) (.slice none 0 0) (.slice none 0 0) ⟨[], [], []⟩)) (PP : Ending → World → Prop) (u1 u2 u3 u4 u5 u10 u11 u12 u13 u14 u15 u16 u17 u18 u19 u20 u21 u22 u23 u24 u25 u26 u27 u28 u29 u30 u31 u32 u33 u34 u35 u36 u37 u38 u39 u40 u41 u42 u43 u44 u45 u46 u47 u48 u49 u50 u51 u52 u53 u54 u55 u56 u57 u58 u59 u60 u61 u62 u63 u64 u65 u66 u67 u68 u69 u70 u71 u72 u73 u74 u75 u76 u77 u78 u79 u80 u81 u82 u83 u84 u85 u86 u87 u88 u89 u90 u91 u92 u93 u94 u95 u96 u97 u98 u99 u100 u101 u102 u103 u104 u105 u106 u107 u108 u109 u110 u111 u112 u113 u114 u115 u116 u117 u118 u119 u120 u121 u122 u123 u124 u125 u126 u127 u128 u129 u130 u131 u132 u133 u134 u135 u136 u137 u138 u139 u140 u141 u142 u143 u144 u145 u146 u147 u148 u149 u150 u151 u152 u153 u154 u155 u156 u157 u158 u159 u160 u161 u162 u163 u164 u165 u166 u167 u168 u169 u170 u171 u172 u173 u174 u175 u176 u177 u178 u179 u180 u181 u182 u183 u184 u185 u186 u187 : Value) (K : Act → World → Prop) (hK : ∀ (v1 v2 v3 v4 v5 v10 v11 v12 v13 v14 v15 v16 v17 v18 v19 v20 v21 v22 v23 v24 v25 v26 v27 v28 v29 v30 v31 v32 v33 v34 v35 v36 v37 v38 v39 v40 v41 v42 v43 v44 v45 v46 v47 v48 v49 v50 v51 v52 v53 v54 v55 v56 v57 v58 v59 v60 v61 v62 v63 v64 v65 v66 v67 v68 v69 v70 v71 v72 v73 v74 v75 v76 v77 v78 v79 v80 v81 v82 v83 v84 v85 v86 v87 v88 v89 v90 v91 v92 v93 v94 v95 v96 v97 v98 v99 v100 v101 v102 v103 v104 v105 v106 v107 v108 v109 v110 v111 v112 v113 v114 v115 v116 v117 v118 v119 v120 v121 v122 v123 v124 v125 v126 v127 v128 v129 v130 v131 v132 v133 v134 v135 v136 v137 v138 v139 v140 v141 v142 v143 v144 v145 v146 v147 v148 v149 v150 v151 v152 v153 v154 v155 v156 v157 v158 v159 v160 v161 v162 v163 v164 v165 v166 v167 v168 v169 v170 v171 v172 v173 v174 v175 v176 v177 v178 v179 v180 v181 v182 v183 v184 v185 v186 v187 : Value) (wx : World) (u : Value), Hid (IS B g (w.heap.size + 1) w.heap.size w wx bs (dVehs bs nv s5).2 u (.slice none 0 0) (.slice none 0 0) ⟨(dVehs bs nv s5).1, [], []⟩) → K { tmps := #[.pointer (some ⟨g, 0, none⟩), v1, v2, v3, v4, v5, .pointer (some ⟨w.heap.size, 0, none⟩), .pointer (some ⟨w.heap.size + 1, 0, none⟩), .int .i64 (nv : Int), .int .i64 (nr : Int), v10, v11, v12, v13, v14, v15, v16, v17, v18, v19, v20, v21, v22, v23, v24, v25, v26, v27, v28, v29, v30, v31, v32, v33, v34, v35, v36, v37, v38, v39, v40, v41, v42, v43, v44, v45, v46, v47, v48, v49, v50, v51, v52, v53, v54, v55, v56, v57, v58, v59, v60, v61, v62, v63, v64, v65, v66, v67, v68, v69, v70, v71, v72, v73, v74, v75, v76, v77, v78, v79, v80, v81, v82, v83, v84, v85, v86, v87, v88, v89, v90, v91, v92, v93, v94, v95, v96, v97, v98, v99, v100, v101, v102, v103, v104, v105, v106, v107, v108, v109, v110, v111, v112, v113, v114, v115, v116, v117, v118, v119, v120, v121, v122, v123, v124, v125, v126, v127, v128, v129, v130, v131, v132, v133, v134, v135, v136, v137, v138, v139, v140, v141, v142, v143, v144, v145, v146, v147, v148, v149, v150, v151, v152, v153, v154, v155, v156, v157, v158, v159, v160, v161, v162, v163, v164, v165, v166, v167, v168, v169, v170, v171, v172, v173, v174, v175, v176, v177, v178, v179, v180, v181, v182, v183, v184, v185, v186, v187], defers := [] } wx) :
    Code.wp Tryz.prog (sL (sR (sR (sR (sR (sR (sR (sR (Tryz.f10.body.getD .skip))))))))) (Exit.then K (bodyPost Tryz.prog Tryz.f10 PP)) { tmps := #[.pointer (some ⟨g, 0, none⟩), u1, u2, u3, u4, u5, .pointer (some ⟨w.heap.size, 0, none⟩), .pointer (some ⟨w.heap.size + 1, 0, none⟩), .int .i64 (nv : Int), .int .i64 (nr : Int), u10, u11, u12, u13, u14, u15, u16, u17, u18, u19, u20, u21, u22, u23, u24, u25, u26, u27, u28, u29, u30, u31, u32, u33, u34, u35, u36, u37, u38, u39, u40, u41, u42, u43, u44, u45, u46, u47, u48, u49, u50, u51, u52, u53, u54, u55, u56, u57, u58, u59, u60, u61, u62, u63, u64, u65, u66, u67, u68, u69, u70, u71, u72, u73, u74, u75, u76, u77, u78, u79, u80, u81, u82, u83, u84, u85, u86, u87, u88, u89, u90, u91, u92, u93, u94, u95, u96, u97, u98, u99, u100, u101, u102, u103, u104, u105, u106, u107, u108, u109, u110, u111, u112, u113, u114, u115, u116, u117, u118, u119, u120, u121, u122, u123, u124, u125, u126, u127, u128, u129, u130, u131, u132, u133, u134, u135, u136, u137, u138, u139, u140, u141, u142, u143, u144, u145, u146, u147, u148, u149, u150, u151, u152, u153, u154, u155, u156, u157, u158, u159, u160, u161, u162, u163, u164, u165, u166, u167, u168, u169, u170, u171, u172, u173, u174, u175, u176, u177, u178, u179, u180, u181, u182, u183, u184, u185, u186, u187], defers := [] } wc := by
  conv =>
    arg 2
    dsimp only [Tryz.f10, Option.getD, sR, sL]
  conv =>
    arg 4
    dsimp only
  dsimp only at hK
  have HKK := Hid.mk hK
  clear hK
  go_wp2_with fail
  go_loopw [10] (fun i wr => ∃ (k : Nat) (u : Value), k ≤ nv ∧ i = .int .i64 (k : Int) ∧ Hid (IS B g (w.heap.size + 1) w.heap.size w wr bs (dVehs bs k s5).2 u (.slice none 0 0) (.slice none 0 0) ⟨(dVehs bs k s5).1, [], []⟩)) (fun i _ => nv - (intOf i).toNat)
  case atStart => exact ⟨0, _, Nat.zero_le _, rfl, I5.out⟩
  case round =>
    as_aux_lemma =>
      obtain ⟨k, u, hk, rfl, hI⟩ := hrel
      by_cases hlt : k < nv
      · obtain ⟨L, hL⟩ : ∃ L, L = (dVehs bs k s5).1 := ⟨_, rfl⟩
        obtain ⟨q0, hq0⟩ : ∃ t, t = (dVehs bs k s5).2 := ⟨_, rfl⟩
        have hLl : Hid (k = L.length) := by unfold Hid; rw [hL, vehs_len]
        rw [← hL, ← hq0] at hI
        obtain ⟨a, ha⟩ : ∃ x, x = (dBelow bs q0 16).1 := ⟨_, rfl⟩
        obtain ⟨q1, hq1⟩ : ∃ t, t = (dBelow bs q0 16).2 := ⟨_, rfl⟩
        have K0 : Hid (∀ w, DC B g w bs q0 → Calls Tryz.prog 26 #[.pointer (some ⟨g, 0, none⟩), .int .i64 16] w fun e w' => e = .returned (.int .i64 (a : Int)) ∧ DC B g w' bs q1 ∧ w.grownBy w' (some g)) := fun w hd => by rw [ha, hq1]; exact belowD B g bs q0 16 w hB hd hl (by omega) (by omega)
        obtain ⟨b, hb⟩ : ∃ x, x = (dBelow bs q1 16).1 := ⟨_, rfl⟩
        obtain ⟨q2, hq2⟩ : ∃ t, t = (dBelow bs q1 16).2 := ⟨_, rfl⟩
        have K1 : Hid (∀ w, DC B g w bs q1 → Calls Tryz.prog 26 #[.pointer (some ⟨g, 0, none⟩), .int .i64 16] w fun e w' => e = .returned (.int .i64 (b : Int)) ∧ DC B g w' bs q2 ∧ w.grownBy w' (some g)) := fun w hd => by rw [hb, hq2]; exact belowD B g bs q1 16 w hB hd hl (by omega) (by omega)
        obtain ⟨t, ht⟩ : ∃ x, x = (dTags bs q2).1 := ⟨_, rfl⟩
        obtain ⟨q3, hq3⟩ : ∃ t, t = (dTags bs q2).2 := ⟨_, rfl⟩
        have K2 : Hid (∀ w, DC B g w bs q2 → Calls Tryz.prog 27 #[.pointer (some ⟨g, 0, none⟩)] w fun e w' => e = .returned (.int .i64 (t : Int)) ∧ DC B g w' bs q3 ∧ w.grownBy w' (some g)) := fun w hd => by rw [ht, hq3]; exact tagsD B g bs q2 w hB hd hl
        obtain ⟨p, hp⟩ : ∃ x, x = (dPlace bs q3).1 := ⟨_, rfl⟩
        obtain ⟨q4, hq4⟩ : ∃ t, t = (dPlace bs q3).2 := ⟨_, rfl⟩
        have K3 : Hid (∀ w, B ≤ w.heap.size → DC B g w bs q3 → Calls Tryz.prog 28 #[.pointer (some ⟨g, 0, none⟩)] w fun e w' => e = .returned (.agg p.vals) ∧ DC B g w' bs q4 ∧ w.grownBy w' (some g)) := fun w hw hd => by rw [hp, hq4]; exact placeD B g bs q3 w hB hw hd hl
        have HE : Hid (dVeh bs q0 = (mkVeh a b t p, q4)) := by unfold Hid dVeh; rw [hq4, hp, hq3, ht, hq2, hb, hq1, ha]
        have la : a < 16 := by rw [ha]; exact Nat.lt_of_lt_of_le (below_lt _ _ (by omega)) (by omega)
        have lb : b < 16 := by rw [hb]; exact below_lt _ _ (by omega)
        have lt : t < 65536 := by rw [ht]; exact tags_lt _ _
        have HD : Hid (dVehs bs (k + 1) s5 = (L ++ [mkVeh a b t p], q4)) := by unfold Hid; rw [dVehs, ← hL, ← hq0, HE.out]
        clear hL hq0 ha hq1 hb hq2 ht hq3 hp hq4
        obtain ⟨v, hv⟩ : ∃ v, v = mkVeh a b t p := ⟨_, rfl⟩
        rw [← hv] at HD HE
        have hgw : g < wr.heap.size := hI.out.d.lt
        have hIw : w.heap.size + 1 < wr.heap.size := blk_lt hI.out.x
        have hLT := hI.out.lt
        have n1 : g ≠ wr.heap.size := by omega
        have n2 : w.heap.size + 1 ≠ wr.heap.size := by omega
        have n3 : w.heap.size ≠ wr.heap.size := by omega
        have n4 : w.heap.size ≤ wr.heap.size := by omega
        have n5 : B ≤ wr.heap.size := by omega
        have HLT := Hid.mk hLT
        obtain ⟨W, hW⟩ : ∃ W, W = wr.alloc (.cells #[.int .i64 0, .int .i64 0, .int .i64 0, .int .i64 0, .int .i64 0, .int .i64 0, .int .i64 0] 45) := ⟨_, rfl⟩
        have JW : Hid (IS B g (w.heap.size + 1) w.heap.size w W bs q0 u (.slice none 0 0) (.slice none 0 0) ⟨L, [], []⟩) := by rw [hW]; exact hI.out.below (by omega) (below_alloc' (Below.refl _ _) _)
        have XW : Hid (W.heap[wr.heap.size]? = some (.cells #[.int .i64 0, .int .i64 0, .int .i64 0, .int .i64 0, .int .i64 0, .int .i64 0, .int .i64 0] 45)) := by rw [hW]; exact blk_new _ _
        have k1 : (k : Int) < (nv : Int) := by omega
        have e1 : IntKind.i64.wrap (6 + (a : Int)) = 6 + (a : Int) := by rw [IntKind.wrap_i64]; omega
        have e9 : IntKind.i64.wrap ((k : Int) + 1) = (k : Int) + 1 := by have := hnbnv.out; rw [IntKind.wrap_i64]; omega
        have e2 : bits BinOp.or IntKind.i64 (b : Int) (t : Int) = ((b ||| t : Nat) : Int) := (bits_nat .i64 17 (by decide) (fun z h0 h1 => by rw [IntKind.wrap_i64]; omega) b t (by omega) (by omega)).2
        clear hI hLT
        go_wp2_with fail
        rw [← hW]
        clear hW
        refine (K0.out _ JW.out.d).mono ?_
        rintro e w10 ⟨rfl, d, gg⟩
        have J10 := Hid.mk (JW.out.call d gg hI1 hI2)
        have X10 := Hid.mk (blk_grown XW.out gg n1.symm)
        clear d gg JW XW
        have c0 := (blk_cell X10.out 0).trans (show _ = some (.int .i64 0) from rfl)
        have f0 := blk_unfrozen X10.out 0
        go_wp2_with fail
        clear c0 f0
        have JS1 := Hid.mk (J10.out.own (i := 0) (v := .int .i64 (6 + (a : Int))) n5 n1 n2 n3 n4 HLT.out)
        have XS1 := Hid.mk (blk_set X10.out 0 (.int .i64 (6 + (a : Int))))
        simp only [List.setIfInBounds_toArray, List.set_cons_zero, List.set_cons_succ] at XS1
        clear J10 X10
        refine (K1.out _ JS1.out.d).mono ?_
        rintro e w11 ⟨rfl, d, gg⟩
        have J11 := Hid.mk (JS1.out.call d gg hI1 hI2)
        have X11 := Hid.mk (blk_grown XS1.out gg n1.symm)
        clear d gg JS1 XS1
        have c1 := (blk_cell X11.out 1).trans (show _ = some (.int .i64 0) from rfl)
        have f1 := blk_unfrozen X11.out 1
        go_wp2_with fail
        clear c1 f1
        have JS2 := Hid.mk (J11.out.own (i := 1) (v := .int .i64 (b : Int)) n5 n1 n2 n3 n4 HLT.out)
        have XS2 := Hid.mk (blk_set X11.out 1 (.int .i64 (b : Int)))
        simp only [List.setIfInBounds_toArray, List.set_cons_zero, List.set_cons_succ] at XS2
        clear J11 X11
        refine (K2.out _ JS2.out.d).mono ?_
        rintro e w12 ⟨rfl, d, gg⟩
        have J12 := Hid.mk (JS2.out.call d gg hI1 hI2)
        have X12 := Hid.mk (blk_grown XS2.out gg n1.symm)
        clear d gg JS2 XS2
        have c1 := (blk_cell X12.out 1).trans (show _ = some (.int .i64 (b : Int)) from rfl)
        have f1 := blk_unfrozen X12.out 1
        go_wp2_with fail
        clear c1 f1
        have JS3 := Hid.mk (J12.out.own (i := 1) (v := .int .i64 ((b ||| t : Nat) : Int)) n5 n1 n2 n3 n4 HLT.out)
        have XS3 := Hid.mk (blk_set X12.out 1 (.int .i64 ((b ||| t : Nat) : Int)))
        simp only [List.setIfInBounds_toArray, List.set_cons_zero, List.set_cons_succ] at XS3
        clear J12 X12
        refine (K3.out _ (Nat.le_trans hBs JS3.out.gb.size) JS3.out.d).mono ?_
        rintro e w13 ⟨rfl, d, gg⟩
        have J13 := Hid.mk (JS3.out.call d gg hI1 hI2)
        have X13 := Hid.mk (blk_grown XS3.out gg n1.symm)
        clear d gg JS3 XS3
        have c2 := (blk_cell X13.out 2).trans (show _ = some (.int .i64 0) from rfl)
        have f2 := blk_unfrozen X13.out 2
        have c3 := (blk_cell X13.out 3).trans (show _ = some (.int .i64 0) from rfl)
        have f3 := blk_unfrozen X13.out 3
        have c4 := (blk_cell X13.out 4).trans (show _ = some (.int .i64 0) from rfl)
        have f4 := blk_unfrozen X13.out 4
        have c5 := (blk_cell X13.out 5).trans (show _ = some (.int .i64 0) from rfl)
        have f5 := blk_unfrozen X13.out 5
        have c6 := (blk_cell X13.out 6).trans (show _ = some (.int .i64 0) from rfl)
        have f6 := blk_unfrozen X13.out 6
        simp only [Pl.vals]
        go_upto_region 19 with fail
        clear c2 f2 c3 f3 c4 f4 c5 f5 c6 f6
        have JS4 := Hid.mk (J13.out.own (i := 2) (v := .int .i64 p.x) n5 n1 n2 n3 n4 HLT.out)
        have XS4 := Hid.mk (blk_set X13.out 2 (.int .i64 p.x))
        simp only [List.setIfInBounds_toArray, List.set_cons_zero, List.set_cons_succ] at XS4
        clear J13 X13
        have JS5 := Hid.mk (JS4.out.own (i := 3) (v := .int .i64 p.y) n5 n1 n2 n3 n4 HLT.out)
        have XS5 := Hid.mk (blk_set XS4.out 3 (.int .i64 p.y))
        simp only [List.setIfInBounds_toArray, List.set_cons_zero, List.set_cons_succ] at XS5
        clear JS4 XS4
        have JS6 := Hid.mk (JS5.out.own (i := 4) (v := .int .i64 p.o) n5 n1 n2 n3 n4 HLT.out)
        have XS6 := Hid.mk (blk_set XS5.out 4 (.int .i64 p.o))
        simp only [List.setIfInBounds_toArray, List.set_cons_zero, List.set_cons_succ] at XS6
        clear JS5 XS5
        have JS7 := Hid.mk (JS6.out.own (i := 5) (v := .int .i64 p.c) n5 n1 n2 n3 n4 HLT.out)
        have XS7 := Hid.mk (blk_set XS6.out 5 (.int .i64 p.c))
        simp only [List.setIfInBounds_toArray, List.set_cons_zero, List.set_cons_succ] at XS7
        clear JS6 XS6
        have JS8 := Hid.mk (JS7.out.own (i := 6) (v := .int .i64 p.h) n5 n1 n2 n3 n4 HLT.out)
        have XS8 := Hid.mk (blk_set XS7.out 6 (.int .i64 p.h))
        simp only [List.setIfInBounds_toArray, List.set_cons_zero, List.set_cons_succ] at XS8
        clear JS7 XS7
        obtain ⟨Z, hZ⟩ : ∃ Z, Z = (((((w13.setCell ⟨wr.heap.size, 2, none⟩ (.int .i64 p.x)).setCell ⟨wr.heap.size, 3, none⟩ (.int .i64 p.y)).setCell ⟨wr.heap.size, 4, none⟩ (.int .i64 p.o)).setCell ⟨wr.heap.size, 5, none⟩ (.int .i64 p.c)).setCell ⟨wr.heap.size, 6, none⟩ (.int .i64 p.h)) := ⟨_, rfl⟩
        rw [← hZ] at JS8 XS8 ⊢
        clear hZ
        have XV : Hid (Z.heap[wr.heap.size]? = some (.cells #[.int .i64 v.a, .int .i64 v.b, .int .i64 v.x, .int .i64 v.y, .int .i64 v.o, .int .i64 v.c, .int .i64 v.h] 45)) := by rw [hv]; exact XS8
        have HRow : Hid (Z.ownsRow w.heap.size 45 7 u k (L.flatMap Veh.cells)) := by unfold Hid; have := JS8.out.acc.v; simp only at this; rw [← hLl.out] at this; exact this
        clear hv XS8
        obtain ⟨a1, c1, hu, -⟩ := row_shape HRow.out
        subst hu
        obtain ⟨i0, hi, hz0, hz1, hz2⟩ := info_parts info1
        have r0 := (blk_cell XV.out 0).trans (show _ = some (.int .i64 v.a) from rfl)
        have r1 := (blk_cell XV.out 1).trans (show _ = some (.int .i64 v.b) from rfl)
        have r2 := (blk_cell XV.out 2).trans (show _ = some (.int .i64 v.x) from rfl)
        have r3 := (blk_cell XV.out 3).trans (show _ = some (.int .i64 v.y) from rfl)
        have r4 := (blk_cell XV.out 4).trans (show _ = some (.int .i64 v.o) from rfl)
        have r5 := (blk_cell XV.out 5).trans (show _ = some (.int .i64 v.c) from rfl)
        have r6 := (blk_cell XV.out 6).trans (show _ = some (.int .i64 v.h) from rfl)
        have y0 := (blk_cell JS8.out.x 0).trans (show _ = some (.slice a1 k c1) from rfl)
        have hsz : w.heap.size ≤ Z.heap.size := JS8.out.gb.size
        have hkb : k < 900 := by have := hnbnv.out; omega
        go_wp2_with (first | (at_builtin; refine wpList_append_own _ rfl _ _ 23 rfl w.heap.size 45 i0 (.agg #[.int .i64 0, .int .i64 0, .int .i64 0, .int .i64 0, .int .i64 0, .int .i64 0, .int .i64 0]) 7 56 Tryz.underlying23 hi hz0 hz1 hz2 rfl (by decide) _ _ _ rfl (HRow.out.alloc _) ⟨Z.heap.size, 0, none⟩ 1 1 v.cells rfl rfl (news_at Z v.cells 45) (by intro u hu; simp only [Veh.cells, List.mem_cons, List.not_mem_nil, or_false] at hu; rcases hu with rfl | rfl | rfl | rfl | rfl | rfl | rfl <;> rfl) (by unfold maxLen; omega) (by omega) (by simp; omega) ?_) | (refine wpList_build1 rfl 23 45 _ rfl i0 _ Tryz.underlying23 hi hz0 7 hz1 v.cells rfl (fill7 v.a v.b v.x v.y v.o v.c v.h) (by decide) (by decide) ?_))
        intro vn w7 hown hgrow _
        obtain ⟨an, cn, hvn, -⟩ := row_shape hown
        subst hvn
        have J9 := Hid.mk (JS8.out.appV (v := v) hLl.out hown hgrow hBs (Nat.le_succ _) hI1 (Nat.ne_of_lt (Nat.lt_succ_self _)))
        have hx := grown_other hgrow (HRow.out.alloc _) (blk_alloc JS8.out.x _) (by decide)
        have xs0 := (blk_cell hx 0).trans (show _ = some (.slice a1 k c1) from rfl)
        have zs0 := blk_unfrozen hx 0
        clear hown hgrow hx HRow XV JS8 y0 r0 r1 r2 r3 r4 r5 r6
        refine Hid.out ?_
        refine Lib.hid ?_
        go_wp2_with fail
        refine ⟨⟨k + 1, .slice an (k + 1) cn, by omega, by first | rfl | go_num, ?_⟩, by simp [intOf]; omega⟩
        rw [HD.out]; exact J9
      · obtain rfl : nv = k := by omega
        have k2 : ¬ ((nv : Int) < (nv : Int)) := by omega
        go_wp2_with fail
        exact HKK.out _ _ _ _ _ _ _ _ _ _ _ _ _ _ _ _ _ _ _ _ _ _ _ _ _ _ _ _ _ _ _ _ _ _ _ _ _ _ _ _ _ _ _ _ _ _ _ _ _ _ _ _ _ _ _ _ _ _ _ _ _ _ _ _ _ _ _ _ _ _ _ _ _ _ _ _ _ _ _ _ _ _ _ _ _ _ _ _ _ _ _ _ _ _ _ _ _ _ _ _ _ _ _ _ _ _ _ _ _ _ _ _ _ _ _ _ _ _ _ _ _ _ _ _ _ _ _ _ _ _ _ _ _ _ _ _ _ _ _ _ _ _ _ _ _ _ _ _ _ _ _ _ _ _ _ _ _ _ _ _ _ _ _ _ _ _ _ _ _ _ _ _ _ _ _ _ _ _ _ _ _ _ _ _ _ hI
end Go.Proofs.YtefkdpppcjlflaaGreatDoor.Draw
