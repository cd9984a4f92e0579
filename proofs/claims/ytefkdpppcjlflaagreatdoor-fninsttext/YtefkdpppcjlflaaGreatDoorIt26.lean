import Derived.Test.YtefkdpppcjlflaaGreatDoorIt23
import Derived.Deep.DeepCutAuto
namespace Go.Proofs.YtefkdpppcjlflaaGreatDoor.Draw
open Go Go.RowKit Go.Proofs.YtefkdpppcjlflaaGreatDoor.Mem Go.Proofs.YtefkdpppcjlflaaGreatDoor.Parse
set_option linter.unusedVariables false
set_option linter.unusedSimpArgs false
attribute [local go_sem ↓] Go.wp_at_zero Go.wp_at_succ

set_option maxHeartbeats 6400000 in
set_option maxRecDepth 1000000 in
theorem spoil8 (rF B g rI r0 : Nat) (bs : List UInt8) (w0 wc : World) (hB : B ≤ g) (hBs : B ≤ w0.heap.size) (hl : bs.length ≤ 1048576) (hg0 : g < w0.heap.size) (kk : Int) (hk0 : 0 ≤ kk) (hk1 : kk < 12) (hI1 : rI ≠ g) (hI2 : r0 ≠ g) (hI3 : rI ≠ r0) (hF : rF ≠ g) (hF1 : rF ≠ rI) (hF2 : rF ≠ r0) (hw1 : w0.heap.size ≤ rI) (hw2 : w0.heap.size ≤ r0) (s : DS) (z1 z2 z3 : Value) (L1 : List Veh) (L2 : List Req) (R : List Rd) (hV : L1.length ≤ 900) (hQ : L2.length ≤ 900) (hR : R.length ≤ 900) (J0 : Hid (IT rF B g rI r0 w0 wc bs s z1 z2 z3 ⟨L1, L2, R⟩)) (nI : Int) (hn0 : 0 ≤ nI) (hn1 : nI ≤ 5000) (PP : Ending → World → Prop) (u1 u2 u6 u7 u8 u9 u11 u12 u13 u14 u15 u16 u17 u18 u19 u20 u21 u22 u23 u24 u25 u26 u27 u28 u29 u30 u31 u32 u33 u34 u35 u36 u37 u38 u39 u40 u41 u42 u43 u44 u45 u46 u47 u48 u49 u50 u51 u52 u53 u54 u55 u56 u57 u58 u59 u60 u61 u62 u63 u64 u65 u66 u67 u68 u69 u70 u71 u72 u73 u74 u75 u76 u77 u78 u79 u80 u81 u82 u83 u84 u85 u86 u87 u88 u89 u90 u91 u92 u93 u94 u95 u96 u97 u98 u99 u100 u101 u102 u103 u104 u105 u106 u107 u108 u109 u110 u111 u112 u113 u114 u115 u116 u117 u118 u119 u120 u121 u122 u123 u124 u125 u126 u127 u128 u129 u130 u131 u132 u133 u134 u135 u136 u137 u138 u139 u140 u141 u142 u143 u144 u145 u146 u147 u148 u149 u150 u151 : Value) (K : Act → World → Prop) (hK : ∀ (v1 v2 v6 v7 v8 v9 v11 v12 v13 v14 v15 v16 v17 v18 v19 v20 v21 v22 v23 v24 v25 v26 v27 v28 v29 v30 v31 v32 v33 v34 v35 v36 v37 v38 v39 v40 v41 v42 v43 v44 v45 v46 v47 v48 v49 v50 v51 v52 v53 v54 v55 v56 v57 v58 v59 v60 v61 v62 v63 v64 v65 v66 v67 v68 v69 v70 v71 v72 v73 v74 v75 v76 v77 v78 v79 v80 v81 v82 v83 v84 v85 v86 v87 v88 v89 v90 v91 v92 v93 v94 v95 v96 v97 v98 v99 v100 v101 v102 v103 v104 v105 v106 v107 v108 v109 v110 v111 v112 v113 v114 v115 v116 v117 v118 v119 v120 v121 v122 v123 v124 v125 v126 v127 v128 v129 v130 v131 v132 v133 v134 v135 v136 v137 v138 v139 v140 v141 v142 v143 v144 v145 v146 v147 v148 v149 v150 v151 : Value) (wx : World) (RR : List Rd) (z : Value) (_ : Hid (s5 kk nI R = RR)), Hid (IT rF B g rI r0 w0 wx bs s z1 z2 z ⟨L1, L2, RR⟩) → K { tmps := #[.pointer (some ⟨g, 0, none⟩), v1, v2, .pointer (some ⟨rI, 0, none⟩), .pointer (some ⟨r0, 0, none⟩), .int .i64 kk, v6, v7, v8, v9, .int .i64 nI, v11, v12, v13, v14, v15, v16, v17, v18, v19, v20, v21, v22, v23, v24, v25, v26, v27, v28, v29, v30, v31, v32, v33, v34, v35, v36, v37, v38, v39, v40, v41, v42, v43, v44, v45, v46, v47, v48, v49, v50, v51, v52, v53, v54, v55, v56, v57, v58, v59, v60, v61, v62, v63, v64, v65, v66, v67, v68, v69, v70, v71, v72, v73, v74, v75, v76, v77, v78, v79, v80, v81, v82, v83, v84, v85, v86, v87, v88, v89, v90, v91, v92, v93, v94, v95, v96, v97, v98, v99, v100, v101, v102, v103, v104, v105, v106, v107, v108, v109, v110, v111, v112, v113, v114, v115, v116, v117, v118, v119, v120, v121, v122, v123, v124, v125, v126, v127, v128, v129, v130, v131, v132, v133, v134, v135, v136, v137, v138, v139, v140, v141, v142, v143, v144, v145, v146, v147, v148, v149, v150, v151], defers := [] } wx) :
    Code.wp Tryz.prog (sL (sR (sR (sR (sR (sR (Tryz.f30.body.getD .skip))))))) (Exit.then K (bodyPost Tryz.prog Tryz.f30 PP)) { tmps := #[.pointer (some ⟨g, 0, none⟩), u1, u2, .pointer (some ⟨rI, 0, none⟩), .pointer (some ⟨r0, 0, none⟩), .int .i64 kk, u6, u7, u8, u9, .int .i64 nI, u11, u12, u13, u14, u15, u16, u17, u18, u19, u20, u21, u22, u23, u24, u25, u26, u27, u28, u29, u30, u31, u32, u33, u34, u35, u36, u37, u38, u39, u40, u41, u42, u43, u44, u45, u46, u47, u48, u49, u50, u51, u52, u53, u54, u55, u56, u57, u58, u59, u60, u61, u62, u63, u64, u65, u66, u67, u68, u69, u70, u71, u72, u73, u74, u75, u76, u77, u78, u79, u80, u81, u82, u83, u84, u85, u86, u87, u88, u89, u90, u91, u92, u93, u94, u95, u96, u97, u98, u99, u100, u101, u102, u103, u104, u105, u106, u107, u108, u109, u110, u111, u112, u113, u114, u115, u116, u117, u118, u119, u120, u121, u122, u123, u124, u125, u126, u127, u128, u129, u130, u131, u132, u133, u134, u135, u136, u137, u138, u139, u140, u141, u142, u143, u144, u145, u146, u147, u148, u149, u150, u151], defers := [] } wc := by
  conv =>
    arg 2
    dsimp only [Tryz.f30, Option.getD, sR, sL]
  conv =>
    arg 4
    dsimp only
  dsimp only at hK
  have HKK := Hid.mk hK
  clear hK
  obtain ⟨nz, hnz⟩ : ∃ x, x = R.length := ⟨_, rfl⟩
  have HNZ := Hid.mk hnz
  rw [← hnz] at hR
  clear hnz
  obtain ⟨az, cz, hzz⟩ : ∃ a c, z3 = .slice a nz c := by have := J0.out.acc.r; simp only at this; rw [← HNZ.out] at this; obtain ⟨a, c, h, -⟩ := row_shape this; exact ⟨a, c, h⟩
  subst hzz
  have y0 := (blk_cell J0.out.x 2).trans (show _ = some (.slice az nz cz) from rfl)
  by_cases hc : kk = 8
  · have HSP : Hid (s5 kk nI R = R ++ [⟨nI, 0, 5⟩]) := by unfold Hid s5; rw [if_pos hc]
    rw [hc] at HSP HKK ⊢
    clear hc hk0 hk1
    have HRow : Hid (wc.ownsRow w0.heap.size 51 3 (.slice az nz cz) nz (R.flatMap Rd.cells)) := by unfold Hid; have := J0.out.acc.r; simp only at this; rw [← HNZ.out] at this; exact this
    obtain ⟨i0, hi, hz0, hz1, hz2⟩ := info_parts info3
    have hsz : w0.heap.size ≤ wc.heap.size := J0.out.gb.size
    go_wp2_with (first | (at_builtin; refine wpList_append_own _ rfl _ _ 25 rfl w0.heap.size 51 i0 (.agg #[.int .i64 0, .int .i64 0, .int .i64 0]) 3 24 Tryz.underlying25 hi hz0 hz1 hz2 rfl (by decide) _ _ _ rfl (HRow.out.alloc _) ⟨wc.heap.size, 0, none⟩ 1 1 [.int .i64 nI, .int .i64 0, .int .i64 5] rfl rfl (news_at wc [.int .i64 nI, .int .i64 0, .int .i64 5] 51) (by intro u hu; simp only [List.mem_cons, List.not_mem_nil, or_false] at hu; rcases hu with rfl | rfl | rfl <;> rfl) (by unfold maxLen; omega) (by omega) (by simp; omega) ?_) | (refine wpList_build1 rfl 25 51 _ rfl i0 _ Tryz.underlying25 hi hz0 3 hz1 [.int .i64 nI, .int .i64 0, .int .i64 5] rfl (fill3 _ _ _) (by decide) (by decide) ?_))
    intro vn w7 hown hgrow _
    obtain ⟨an, cn, hvn, -⟩ := row_shape hown
    subst hvn
    have J9 := Hid.mk (J0.out.appR (v := ⟨nI, 0, 5⟩) HNZ.out hown hgrow hBs hw1 hI1 hI3.symm hF1)
    have hx := grown_other hgrow (HRow.out.alloc _) (blk_alloc J0.out.x _) (by decide)
    have xs0 := (blk_cell hx 2).trans (show _ = some (.slice az nz cz) from rfl)
    have zs0 := blk_unfrozen hx 2
    clear hown hgrow hx HRow J0 y0
    refine Hid.out ?_
    refine Lib.hid ?_
    go_wp2_with fail
    exact HKK.out _ _ _ _ _ _ _ _ _ _ _ _ _ _ _ _ _ _ _ _ _ _ _ _ _ _ _ _ _ _ _ _ _ _ _ _ _ _ _ _ _ _ _ _ _ _ _ _ _ _ _ _ _ _ _ _ _ _ _ _ _ _ _ _ _ _ _ _ _ _ _ _ _ _ _ _ _ _ _ _ _ _ _ _ _ _ _ _ _ _ _ _ _ _ _ _ _ _ _ _ _ _ _ _ _ _ _ _ _ _ _ _ _ _ _ _ _ _ _ _ _ _ _ _ _ _ _ _ _ _ _ _ _ _ _ _ _ _ _ _ _ _ _ _ _ _ _ _ _ _ HSP J9
  · have HSP : Hid (s5 kk nI R = R) := by unfold Hid s5; rw [if_neg hc]
    have hc1 : (kk == 8) = false := by simpa using hc
    clear hc
    go_wp2_with fail
    exact HKK.out _ _ _ _ _ _ _ _ _ _ _ _ _ _ _ _ _ _ _ _ _ _ _ _ _ _ _ _ _ _ _ _ _ _ _ _ _ _ _ _ _ _ _ _ _ _ _ _ _ _ _ _ _ _ _ _ _ _ _ _ _ _ _ _ _ _ _ _ _ _ _ _ _ _ _ _ _ _ _ _ _ _ _ _ _ _ _ _ _ _ _ _ _ _ _ _ _ _ _ _ _ _ _ _ _ _ _ _ _ _ _ _ _ _ _ _ _ _ _ _ _ _ _ _ _ _ _ _ _ _ _ _ _ _ _ _ _ _ _ _ _ _ _ _ _ _ _ _ _ _ HSP J0
end Go.Proofs.YtefkdpppcjlflaaGreatDoor.Draw
namespace Go.Proofs.YtefkdpppcjlflaaGreatDoor.Draw
open Go Go.RowKit Go.Proofs.YtefkdpppcjlflaaGreatDoor.Mem Go.Proofs.YtefkdpppcjlflaaGreatDoor.Parse
set_option linter.unusedVariables false
set_option linter.unusedSimpArgs false
attribute [local go_sem ↓] Go.wp_at_zero Go.wp_at_succ

set_option maxHeartbeats 6400000 in
set_option maxRecDepth 1000000 in
theorem spoil9 (rF B g rI r0 : Nat) (bs : List UInt8) (w0 wc : World) (hB : B ≤ g) (hBs : B ≤ w0.heap.size) (hl : bs.length ≤ 1048576) (hg0 : g < w0.heap.size) (kk : Int) (hk0 : 0 ≤ kk) (hk1 : kk < 12) (hI1 : rI ≠ g) (hI2 : r0 ≠ g) (hI3 : rI ≠ r0) (hF : rF ≠ g) (hF1 : rF ≠ rI) (hF2 : rF ≠ r0) (hw1 : w0.heap.size ≤ rI) (hw2 : w0.heap.size ≤ r0) (s : DS) (z1 z2 z3 : Value) (L1 : List Veh) (L2 : List Req) (R : List Rd) (hV : L1.length ≤ 900) (hQ : L2.length ≤ 900) (hR : R.length ≤ 900) (J0 : Hid (IT rF B g rI r0 w0 wc bs s z1 z2 z3 ⟨L1, L2, R⟩)) (nI : Int) (hn0 : 0 ≤ nI) (hn1 : nI ≤ 5000) (PP : Ending → World → Prop) (u1 u2 u6 u7 u8 u9 u11 u12 u13 u14 u15 u16 u17 u18 u19 u20 u21 u22 u23 u24 u25 u26 u27 u28 u29 u30 u31 u32 u33 u34 u35 u36 u37 u38 u39 u40 u41 u42 u43 u44 u45 u46 u47 u48 u49 u50 u51 u52 u53 u54 u55 u56 u57 u58 u59 u60 u61 u62 u63 u64 u65 u66 u67 u68 u69 u70 u71 u72 u73 u74 u75 u76 u77 u78 u79 u80 u81 u82 u83 u84 u85 u86 u87 u88 u89 u90 u91 u92 u93 u94 u95 u96 u97 u98 u99 u100 u101 u102 u103 u104 u105 u106 u107 u108 u109 u110 u111 u112 u113 u114 u115 u116 u117 u118 u119 u120 u121 u122 u123 u124 u125 u126 u127 u128 u129 u130 u131 u132 u133 u134 u135 u136 u137 u138 u139 u140 u141 u142 u143 u144 u145 u146 u147 u148 u149 u150 u151 : Value) (K : Act → World → Prop) (hK : ∀ (v1 v2 v6 v7 v8 v9 v11 v12 v13 v14 v15 v16 v17 v18 v19 v20 v21 v22 v23 v24 v25 v26 v27 v28 v29 v30 v31 v32 v33 v34 v35 v36 v37 v38 v39 v40 v41 v42 v43 v44 v45 v46 v47 v48 v49 v50 v51 v52 v53 v54 v55 v56 v57 v58 v59 v60 v61 v62 v63 v64 v65 v66 v67 v68 v69 v70 v71 v72 v73 v74 v75 v76 v77 v78 v79 v80 v81 v82 v83 v84 v85 v86 v87 v88 v89 v90 v91 v92 v93 v94 v95 v96 v97 v98 v99 v100 v101 v102 v103 v104 v105 v106 v107 v108 v109 v110 v111 v112 v113 v114 v115 v116 v117 v118 v119 v120 v121 v122 v123 v124 v125 v126 v127 v128 v129 v130 v131 v132 v133 v134 v135 v136 v137 v138 v139 v140 v141 v142 v143 v144 v145 v146 v147 v148 v149 v150 v151 : Value) (wx : World) (RR : List Rd) (z : Value) (_ : Hid (s6 kk nI R = RR)), Hid (IT rF B g rI r0 w0 wx bs s z1 z2 z ⟨L1, L2, RR⟩) → K { tmps := #[.pointer (some ⟨g, 0, none⟩), v1, v2, .pointer (some ⟨rI, 0, none⟩), .pointer (some ⟨r0, 0, none⟩), .int .i64 kk, v6, v7, v8, v9, .int .i64 nI, v11, v12, v13, v14, v15, v16, v17, v18, v19, v20, v21, v22, v23, v24, v25, v26, v27, v28, v29, v30, v31, v32, v33, v34, v35, v36, v37, v38, v39, v40, v41, v42, v43, v44, v45, v46, v47, v48, v49, v50, v51, v52, v53, v54, v55, v56, v57, v58, v59, v60, v61, v62, v63, v64, v65, v66, v67, v68, v69, v70, v71, v72, v73, v74, v75, v76, v77, v78, v79, v80, v81, v82, v83, v84, v85, v86, v87, v88, v89, v90, v91, v92, v93, v94, v95, v96, v97, v98, v99, v100, v101, v102, v103, v104, v105, v106, v107, v108, v109, v110, v111, v112, v113, v114, v115, v116, v117, v118, v119, v120, v121, v122, v123, v124, v125, v126, v127, v128, v129, v130, v131, v132, v133, v134, v135, v136, v137, v138, v139, v140, v141, v142, v143, v144, v145, v146, v147, v148, v149, v150, v151], defers := [] } wx) :
    Code.wp Tryz.prog (sL (sR (sR (sR (sR (sR (sR (Tryz.f30.body.getD .skip)))))))) (Exit.then K (bodyPost Tryz.prog Tryz.f30 PP)) { tmps := #[.pointer (some ⟨g, 0, none⟩), u1, u2, .pointer (some ⟨rI, 0, none⟩), .pointer (some ⟨r0, 0, none⟩), .int .i64 kk, u6, u7, u8, u9, .int .i64 nI, u11, u12, u13, u14, u15, u16, u17, u18, u19, u20, u21, u22, u23, u24, u25, u26, u27, u28, u29, u30, u31, u32, u33, u34, u35, u36, u37, u38, u39, u40, u41, u42, u43, u44, u45, u46, u47, u48, u49, u50, u51, u52, u53, u54, u55, u56, u57, u58, u59, u60, u61, u62, u63, u64, u65, u66, u67, u68, u69, u70, u71, u72, u73, u74, u75, u76, u77, u78, u79, u80, u81, u82, u83, u84, u85, u86, u87, u88, u89, u90, u91, u92, u93, u94, u95, u96, u97, u98, u99, u100, u101, u102, u103, u104, u105, u106, u107, u108, u109, u110, u111, u112, u113, u114, u115, u116, u117, u118, u119, u120, u121, u122, u123, u124, u125, u126, u127, u128, u129, u130, u131, u132, u133, u134, u135, u136, u137, u138, u139, u140, u141, u142, u143, u144, u145, u146, u147, u148, u149, u150, u151], defers := [] } wc := by
  conv =>
    arg 2
    dsimp only [Tryz.f30, Option.getD, sR, sL]
  conv =>
    arg 4
    dsimp only
  dsimp only at hK
  have HKK := Hid.mk hK
  clear hK
  obtain ⟨nz, hnz⟩ : ∃ x, x = R.length := ⟨_, rfl⟩
  have HNZ := Hid.mk hnz
  rw [← hnz] at hR
  clear hnz
  obtain ⟨az, cz, hzz⟩ : ∃ a c, z3 = .slice a nz c := by have := J0.out.acc.r; simp only at this; rw [← HNZ.out] at this; obtain ⟨a, c, h, -⟩ := row_shape this; exact ⟨a, c, h⟩
  subst hzz
  have y0 := (blk_cell J0.out.x 2).trans (show _ = some (.slice az nz cz) from rfl)
  by_cases hc : kk = 9
  · have HSP : Hid (s6 kk nI R = R ++ [⟨(nI - 1), (nI - 1), 5⟩]) := by unfold Hid s6; rw [if_pos hc]
    rw [hc] at HSP HKK ⊢
    clear hc hk0 hk1
    have e1 : IntKind.i64.wrap (nI - 1) = nI - 1 := by rw [IntKind.wrap_i64]; omega
    have HRow : Hid (wc.ownsRow w0.heap.size 51 3 (.slice az nz cz) nz (R.flatMap Rd.cells)) := by unfold Hid; have := J0.out.acc.r; simp only at this; rw [← HNZ.out] at this; exact this
    obtain ⟨i0, hi, hz0, hz1, hz2⟩ := info_parts info3
    have hsz : w0.heap.size ≤ wc.heap.size := J0.out.gb.size
    go_wp2_with (first | (at_builtin; refine wpList_append_own _ rfl _ _ 25 rfl w0.heap.size 51 i0 (.agg #[.int .i64 0, .int .i64 0, .int .i64 0]) 3 24 Tryz.underlying25 hi hz0 hz1 hz2 rfl (by decide) _ _ _ rfl (HRow.out.alloc _) ⟨wc.heap.size, 0, none⟩ 1 1 [.int .i64 (nI - 1), .int .i64 (nI - 1), .int .i64 5] rfl rfl (news_at wc [.int .i64 (nI - 1), .int .i64 (nI - 1), .int .i64 5] 51) (by intro u hu; simp only [List.mem_cons, List.not_mem_nil, or_false] at hu; rcases hu with rfl | rfl | rfl <;> rfl) (by unfold maxLen; omega) (by omega) (by simp; omega) ?_) | (refine wpList_build1 rfl 25 51 _ rfl i0 _ Tryz.underlying25 hi hz0 3 hz1 [.int .i64 (nI - 1), .int .i64 (nI - 1), .int .i64 5] rfl (fill3 _ _ _) (by decide) (by decide) ?_))
    intro vn w7 hown hgrow _
    obtain ⟨an, cn, hvn, -⟩ := row_shape hown
    subst hvn
    have J9 := Hid.mk (J0.out.appR (v := ⟨(nI - 1), (nI - 1), 5⟩) HNZ.out hown hgrow hBs hw1 hI1 hI3.symm hF1)
    have hx := grown_other hgrow (HRow.out.alloc _) (blk_alloc J0.out.x _) (by decide)
    have xs0 := (blk_cell hx 2).trans (show _ = some (.slice az nz cz) from rfl)
    have zs0 := blk_unfrozen hx 2
    clear hown hgrow hx HRow J0 y0
    refine Hid.out ?_
    refine Lib.hid ?_
    go_wp2_with fail
    exact HKK.out _ _ _ _ _ _ _ _ _ _ _ _ _ _ _ _ _ _ _ _ _ _ _ _ _ _ _ _ _ _ _ _ _ _ _ _ _ _ _ _ _ _ _ _ _ _ _ _ _ _ _ _ _ _ _ _ _ _ _ _ _ _ _ _ _ _ _ _ _ _ _ _ _ _ _ _ _ _ _ _ _ _ _ _ _ _ _ _ _ _ _ _ _ _ _ _ _ _ _ _ _ _ _ _ _ _ _ _ _ _ _ _ _ _ _ _ _ _ _ _ _ _ _ _ _ _ _ _ _ _ _ _ _ _ _ _ _ _ _ _ _ _ _ _ _ _ _ _ _ _ HSP J9
  · have HSP : Hid (s6 kk nI R = R) := by unfold Hid s6; rw [if_neg hc]
    have hc1 : (kk == 9) = false := by simpa using hc
    clear hc
    go_wp2_with fail
    exact HKK.out _ _ _ _ _ _ _ _ _ _ _ _ _ _ _ _ _ _ _ _ _ _ _ _ _ _ _ _ _ _ _ _ _ _ _ _ _ _ _ _ _ _ _ _ _ _ _ _ _ _ _ _ _ _ _ _ _ _ _ _ _ _ _ _ _ _ _ _ _ _ _ _ _ _ _ _ _ _ _ _ _ _ _ _ _ _ _ _ _ _ _ _ _ _ _ _ _ _ _ _ _ _ _ _ _ _ _ _ _ _ _ _ _ _ _ _ _ _ _ _ _ _ _ _ _ _ _ _ _ _ _ _ _ _ _ _ _ _ _ _ _ _ _ _ _ _ _ _ _ _ HSP J0
end Go.Proofs.YtefkdpppcjlflaaGreatDoor.Draw
