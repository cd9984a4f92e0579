import Derived.Test.YtefkdpppcjlflaaGreatDoorIt23
import Derived.Deep.DeepCutAuto
namespace Go.Proofs.YtefkdpppcjlflaaGreatDoor.Draw
open Go Go.RowKit Go.Proofs.YtefkdpppcjlflaaGreatDoor.Mem Go.Proofs.YtefkdpppcjlflaaGreatDoor.Parse
set_option linter.unusedVariables false
set_option linter.unusedSimpArgs false
attribute [local go_sem ↓] Go.wp_at_zero Go.wp_at_succ

set_option maxHeartbeats 6400000 in
set_option maxRecDepth 1000000 in
theorem spoil11 (rF B g rI r0 : Nat) (bs : List UInt8) (w0 wc : World) (hB : B ≤ g) (hBs : B ≤ w0.heap.size) (hl : bs.length ≤ 1048576) (hg0 : g < w0.heap.size) (kk : Int) (hk0 : 0 ≤ kk) (hk1 : kk < 12) (hI1 : rI ≠ g) (hI2 : r0 ≠ g) (hI3 : rI ≠ r0) (hF : rF ≠ g) (hF1 : rF ≠ rI) (hF2 : rF ≠ r0) (hw1 : w0.heap.size ≤ rI) (hw2 : w0.heap.size ≤ r0) (s : DS) (z1 z2 z3 : Value) (L1 : List Veh) (L2 : List Req) (R : List Rd) (hV : L1.length ≤ 900) (hQ : L2.length ≤ 900) (hR : R.length ≤ 900) (J0 : Hid (IT rF B g rI r0 w0 wc bs s z1 z2 z3 ⟨L1, L2, R⟩))  (PP : Ending → World → Prop) (u1 u2 u6 u7 u8 u9 u10 u11 u12 u13 u14 u15 u16 u17 u18 u19 u20 u21 u22 u23 u24 u25 u26 u27 u28 u29 u30 u31 u32 u33 u34 u35 u36 u37 u38 u39 u40 u41 u42 u43 u44 u45 u46 u47 u48 u49 u50 u51 u52 u53 u54 u55 u56 u57 u58 u59 u60 u61 u62 u63 u64 u65 u66 u67 u68 u69 u70 u71 u72 u73 u74 u75 u76 u77 u78 u79 u80 u81 u82 u83 u84 u85 u86 u87 u88 u89 u90 u91 u92 u93 u94 u95 u96 u97 u98 u99 u100 u101 u102 u103 u104 u105 u106 u107 u108 u109 u110 u111 u112 u113 u114 u115 u116 u117 u118 u119 u120 u121 u122 u123 u124 u125 u126 u127 u128 u129 u130 u131 u132 u133 u134 u135 u136 u137 u138 u139 u140 u141 u142 u143 u144 u145 u146 u147 u148 u149 u150 u151 : Value) (K : Act → World → Prop) (hK : ∀ (v1 v2 v6 v7 v8 v9 v10 v11 v12 v13 v14 v15 v16 v17 v18 v19 v20 v21 v22 v23 v24 v25 v26 v27 v28 v29 v30 v31 v32 v33 v34 v35 v36 v37 v38 v39 v40 v41 v42 v43 v44 v45 v46 v47 v48 v49 v50 v51 v52 v53 v54 v55 v56 v57 v58 v59 v60 v61 v62 v63 v64 v65 v66 v67 v68 v69 v70 v71 v72 v73 v74 v75 v76 v77 v78 v79 v80 v81 v82 v83 v84 v85 v86 v87 v88 v89 v90 v91 v92 v93 v94 v95 v96 v97 v98 v99 v100 v101 v102 v103 v104 v105 v106 v107 v108 v109 v110 v111 v112 v113 v114 v115 v116 v117 v118 v119 v120 v121 v122 v123 v124 v125 v126 v127 v128 v129 v130 v131 v132 v133 v134 v135 v136 v137 v138 v139 v140 v141 v142 v143 v144 v145 v146 v147 v148 v149 v150 v151 : Value) (wx : World) (RR : List Rd) (z : Value) (_ : Hid (s8 kk R = RR)), Hid (IT rF B g rI r0 w0 wx bs s z1 z2 z ⟨L1, L2, RR⟩) → K { tmps := #[.pointer (some ⟨g, 0, none⟩), v1, v2, .pointer (some ⟨rI, 0, none⟩), .pointer (some ⟨r0, 0, none⟩), .int .i64 kk, v6, v7, v8, v9, v10, v11, v12, v13, v14, v15, v16, v17, v18, v19, v20, v21, v22, v23, v24, v25, v26, v27, v28, v29, v30, v31, v32, v33, v34, v35, v36, v37, v38, v39, v40, v41, v42, v43, v44, v45, v46, v47, v48, v49, v50, v51, v52, v53, v54, v55, v56, v57, v58, v59, v60, v61, v62, v63, v64, v65, v66, v67, v68, v69, v70, v71, v72, v73, v74, v75, v76, v77, v78, v79, v80, v81, v82, v83, v84, v85, v86, v87, v88, v89, v90, v91, v92, v93, v94, v95, v96, v97, v98, v99, v100, v101, v102, v103, v104, v105, v106, v107, v108, v109, v110, v111, v112, v113, v114, v115, v116, v117, v118, v119, v120, v121, v122, v123, v124, v125, v126, v127, v128, v129, v130, v131, v132, v133, v134, v135, v136, v137, v138, v139, v140, v141, v142, v143, v144, v145, v146, v147, v148, v149, v150, v151], defers := [] } wx) :
    Code.wp Tryz.prog (sL (sR (sR (sR (sR (sR (sR (sR (sR (Tryz.f30.body.getD .skip)))))))))) (Exit.then K (bodyPost Tryz.prog Tryz.f30 PP)) { tmps := #[.pointer (some ⟨g, 0, none⟩), u1, u2, .pointer (some ⟨rI, 0, none⟩), .pointer (some ⟨r0, 0, none⟩), .int .i64 kk, u6, u7, u8, u9, u10, u11, u12, u13, u14, u15, u16, u17, u18, u19, u20, u21, u22, u23, u24, u25, u26, u27, u28, u29, u30, u31, u32, u33, u34, u35, u36, u37, u38, u39, u40, u41, u42, u43, u44, u45, u46, u47, u48, u49, u50, u51, u52, u53, u54, u55, u56, u57, u58, u59, u60, u61, u62, u63, u64, u65, u66, u67, u68, u69, u70, u71, u72, u73, u74, u75, u76, u77, u78, u79, u80, u81, u82, u83, u84, u85, u86, u87, u88, u89, u90, u91, u92, u93, u94, u95, u96, u97, u98, u99, u100, u101, u102, u103, u104, u105, u106, u107, u108, u109, u110, u111, u112, u113, u114, u115, u116, u117, u118, u119, u120, u121, u122, u123, u124, u125, u126, u127, u128, u129, u130, u131, u132, u133, u134, u135, u136, u137, u138, u139, u140, u141, u142, u143, u144, u145, u146, u147, u148, u149, u150, u151], defers := [] } wc := by
  conv =>
    arg 2
    dsimp only [Tryz.f30, Option.getD, sR, sL]
  conv =>
    arg 4
    dsimp only
  dsimp only at hK
  have HKK := Hid.mk hK
  clear hK
  obtain ⟨nz, hnz⟩ : ∃ x, x = R.length := ⟨_, rfl⟩
  have HNZ := Hid.mk hnz
  rw [← hnz] at hR
  clear hnz
  obtain ⟨az, cz, hzz⟩ : ∃ a c, z3 = .slice a nz c := by have := J0.out.acc.r; simp only at this; rw [← HNZ.out] at this; obtain ⟨a, c, h, -⟩ := row_shape this; exact ⟨a, c, h⟩
  subst hzz
  have y0 := (blk_cell J0.out.x 2).trans (show _ = some (.slice az nz cz) from rfl)
  by_cases hc : kk = 11 ∧ 0 < nz
  · have HC := Hid.mk hc
    obtain ⟨v, hv⟩ : ∃ v, v = R.getD 0 zRd := ⟨_, rfl⟩
    have HV : Hid (R[0]? = some v) := by unfold Hid; rw [hv, List.getD_eq_getElem?_getD, List.getElem?_eq_getElem (by rw [← HNZ.out]; exact hc.2)]; rfl
    have HSP : Hid (s8 kk R = R.set 0 ⟨v.a, v.b, 100001⟩) := by unfold Hid s8; rw [← HNZ.out, if_pos HC.out, ← hv]
    clear hv
    obtain ⟨hk, hp⟩ := hc
    have hp1 : (0 : Int) < (nz : Int) := by omega
    rw [hk] at HSP HKK ⊢
    clear hk hk0 hk1 HC
    obtain ⟨gv, haz⟩ : ∃ gv, az = some ⟨gv, 0, none⟩ := by
      have := J0.out.acc.r
      simp only at this
      rw [← HNZ.out] at this
      rcases this.2 with ⟨h1, h2⟩ | ⟨b, cap, cur, h1, -⟩
      · omega
      · injection h1 with e1; exact ⟨b, e1⟩
    subst haz
    have RQ : wc.ownsRow w0.heap.size 51 3 (.slice (some ⟨gv, 0, none⟩) nz cz) nz (R.flatMap Rd.cells) := by have := J0.out.acc.r; simp only at this; rw [← HNZ.out] at this; exact this
    obtain ⟨c2, f2⟩ := row_cell RQ (i := 0 * 3 + 2) (u := .int .i64 v.t) ((flat_at Rd.len 0 R v 2 HV.out (by decide)).trans rfl)
    simp only [Nat.zero_mul, Nat.zero_add] at c2 f2
    clear RQ
    go_wp2_with fail
    have J9 := Hid.mk (J0.out.putT (t := 100001) HNZ.out HV.out hBs)
    exact HKK.out _ _ _ _ _ _ _ _ _ _ _ _ _ _ _ _ _ _ _ _ _ _ _ _ _ _ _ _ _ _ _ _ _ _ _ _ _ _ _ _ _ _ _ _ _ _ _ _ _ _ _ _ _ _ _ _ _ _ _ _ _ _ _ _ _ _ _ _ _ _ _ _ _ _ _ _ _ _ _ _ _ _ _ _ _ _ _ _ _ _ _ _ _ _ _ _ _ _ _ _ _ _ _ _ _ _ _ _ _ _ _ _ _ _ _ _ _ _ _ _ _ _ _ _ _ _ _ _ _ _ _ _ _ _ _ _ _ _ _ _ _ _ _ _ _ _ _ _ _ _ _ HSP J9
  · have HC := Hid.mk hc
    have HSP : Hid (s8 kk R = R) := by unfold Hid s8; rw [← HNZ.out, if_neg HC.out]
    by_cases h4 : kk = 11
    · have hp1 : ¬ 0 < nz := fun h => HC.out ⟨h4, h⟩
      have hp2 : decide ((0 : Int) < (nz : Int)) = false := by simp; omega
      rw [h4] at HSP HKK ⊢
      clear hc h4 HC
      go_wp2_with fail
      exact HKK.out _ _ _ _ _ _ _ _ _ _ _ _ _ _ _ _ _ _ _ _ _ _ _ _ _ _ _ _ _ _ _ _ _ _ _ _ _ _ _ _ _ _ _ _ _ _ _ _ _ _ _ _ _ _ _ _ _ _ _ _ _ _ _ _ _ _ _ _ _ _ _ _ _ _ _ _ _ _ _ _ _ _ _ _ _ _ _ _ _ _ _ _ _ _ _ _ _ _ _ _ _ _ _ _ _ _ _ _ _ _ _ _ _ _ _ _ _ _ _ _ _ _ _ _ _ _ _ _ _ _ _ _ _ _ _ _ _ _ _ _ _ _ _ _ _ _ _ _ _ _ _ HSP J0
    · have h5 : (kk == 11) = false := by simpa using h4
      clear hc h4
      go_wp2_with fail
      exact HKK.out _ _ _ _ _ _ _ _ _ _ _ _ _ _ _ _ _ _ _ _ _ _ _ _ _ _ _ _ _ _ _ _ _ _ _ _ _ _ _ _ _ _ _ _ _ _ _ _ _ _ _ _ _ _ _ _ _ _ _ _ _ _ _ _ _ _ _ _ _ _ _ _ _ _ _ _ _ _ _ _ _ _ _ _ _ _ _ _ _ _ _ _ _ _ _ _ _ _ _ _ _ _ _ _ _ _ _ _ _ _ _ _ _ _ _ _ _ _ _ _ _ _ _ _ _ _ _ _ _ _ _ _ _ _ _ _ _ _ _ _ _ _ _ _ _ _ _ _ _ _ _ HSP J0
end Go.Proofs.YtefkdpppcjlflaaGreatDoor.Draw
namespace Go.Proofs.YtefkdpppcjlflaaGreatDoor.Draw
open Go Go.RowKit Go.Proofs.YtefkdpppcjlflaaGreatDoor.Mem Go.Proofs.YtefkdpppcjlflaaGreatDoor.Parse
set_option linter.unusedVariables false
set_option linter.unusedSimpArgs false
attribute [local go_sem ↓] Go.wp_at_zero Go.wp_at_succ

set_option maxHeartbeats 6400000 in
set_option maxRecDepth 1000000 in
theorem spoilF (rF B g rI r0 : Nat) (bs : List UInt8) (w0 wc : World) (hB : B ≤ g) (hBs : B ≤ w0.heap.size) (hl : bs.length ≤ 1048576) (hg0 : g < w0.heap.size) (hI1 : rI ≠ g) (hI2 : r0 ≠ g) (hI3 : rI ≠ r0) (hF : rF ≠ g) (hF1 : rF ≠ rI) (hF2 : rF ≠ r0) (hw1 : w0.heap.size ≤ rI) (hw2 : w0.heap.size ≤ r0) (s : DS) (z1 z2 z3 : Value) (L1 : List Veh) (L2 : List Req) (R : List Rd) (hV : L1.length ≤ 900) (hQ : L2.length ≤ 900) (hR : R.length ≤ 900) (J0 : Hid (IT rF B g rI r0 w0 wc bs s z1 z2 z3 ⟨L1, L2, R⟩)) (PP : Ending → World → Prop) (hPP : ∀ (a1 a2 a3 : Value) (wx : World), DC B g wx bs s → AccAt w0.heap.size wx a1 a2 a3 ⟨L1, L2, R⟩ → w0.grownBy wx (some g) → wx.heap[rF]? = some (.cells #[.slice none 0 0, .slice none 0 0, .slice none 0 0] 27) → PP (.returned (.agg #[a1, a2, a3])) wx) (u1 u2 u5 u6 u7 u8 u9 u10 u11 u12 u13 u14 u15 u16 u17 u18 u19 u20 u21 u22 u23 u24 u25 u26 u27 u28 u29 u30 u31 u32 u33 u34 u35 u36 u37 u38 u39 u40 u41 u42 u43 u44 u45 u46 u47 u48 u49 u50 u51 u52 u53 u54 u55 u56 u57 u58 u59 u60 u61 u62 u63 u64 u65 u66 u67 u68 u69 u70 u71 u72 u73 u74 u75 u76 u77 u78 u79 u80 u81 u82 u83 u84 u85 u86 u87 u88 u89 u90 u91 u92 u93 u94 u95 u96 u97 u98 u99 u100 u101 u102 u103 u104 u105 u106 u107 u108 u109 u110 u111 u112 u113 u114 u115 u116 u117 u118 u119 u120 u121 u122 u123 u124 u125 u126 u127 u128 u129 u130 u131 u132 u133 u134 u135 u136 u137 u138 u139 u140 u141 u142 u143 u144 u145 u146 u147 u148 u149 u150 u151 : Value) :
    Code.wp Tryz.prog (sR (sR (sR (sR (sR (sR (sR (sR (sR (Tryz.f30.body.getD .skip)))))))))) (bodyPost Tryz.prog Tryz.f30 PP) { tmps := #[.pointer (some ⟨g, 0, none⟩), u1, u2, .pointer (some ⟨rI, 0, none⟩), .pointer (some ⟨r0, 0, none⟩), u5, u6, u7, u8, u9, u10, u11, u12, u13, u14, u15, u16, u17, u18, u19, u20, u21, u22, u23, u24, u25, u26, u27, u28, u29, u30, u31, u32, u33, u34, u35, u36, u37, u38, u39, u40, u41, u42, u43, u44, u45, u46, u47, u48, u49, u50, u51, u52, u53, u54, u55, u56, u57, u58, u59, u60, u61, u62, u63, u64, u65, u66, u67, u68, u69, u70, u71, u72, u73, u74, u75, u76, u77, u78, u79, u80, u81, u82, u83, u84, u85, u86, u87, u88, u89, u90, u91, u92, u93, u94, u95, u96, u97, u98, u99, u100, u101, u102, u103, u104, u105, u106, u107, u108, u109, u110, u111, u112, u113, u114, u115, u116, u117, u118, u119, u120, u121, u122, u123, u124, u125, u126, u127, u128, u129, u130, u131, u132, u133, u134, u135, u136, u137, u138, u139, u140, u141, u142, u143, u144, u145, u146, u147, u148, u149, u150, u151], defers := [] } wc := by
  have HPP := Hid.mk hPP
  clear hPP
  dsimp only [Tryz.f30, Option.getD, sR, sL]
  obtain ⟨b1, l1, m1, e1⟩ : ∃ a n c, z1 = .slice a n c := by obtain ⟨a, c, h, -⟩ := row_shape J0.out.acc.v; exact ⟨_, _, _, h⟩
  obtain ⟨b2, l2, m2, e2⟩ : ∃ a n c, z2 = .slice a n c := by obtain ⟨a, c, h, -⟩ := row_shape J0.out.acc.q; exact ⟨_, _, _, h⟩
  obtain ⟨b3, l3, m3, e3⟩ : ∃ a n c, z3 = .slice a n c := by obtain ⟨a, c, h, -⟩ := row_shape J0.out.acc.r; exact ⟨_, _, _, h⟩
  subst e1 e2 e3
  have hI4 : r0 ≠ rI := hI3.symm
  have r0' := (blk_cell J0.out.x 0).trans (show _ = some (.slice b1 l1 m1) from rfl)
  have r1 := (blk_cell J0.out.x 1).trans (show _ = some (.slice b2 l2 m2) from rfl)
  have r2 := (blk_cell J0.out.x 2).trans (show _ = some (.slice b3 l3 m3) from rfl)
  have u0' := (blk_cell J0.out.z 0).trans (show _ = some (.slice none 0 0) from rfl)
  have u1' := (blk_cell J0.out.z 1).trans (show _ = some (.slice none 0 0) from rfl)
  have u2' := (blk_cell J0.out.z 2).trans (show _ = some (.slice none 0 0) from rfl)
  have v0 := blk_unfrozen J0.out.z 0
  have v1 := blk_unfrozen J0.out.z 1
  have v2 := blk_unfrozen J0.out.z 2
  go_wp2
  clear r0' r1 r2 u0' u1' u2' v0 v1 v2
  obtain ⟨c1, c2, c3, c4⟩ := J0.out.toIS.ret (Nat.le_trans hBs hw2) hI2 hw2
  have c5 := blk_set_other (p := ⟨r0, 2, none⟩) (blk_set_other (p := ⟨r0, 1, none⟩) (blk_set_other (p := ⟨r0, 0, none⟩) J0.out.f hF2 (.slice b1 l1 m1)) hF2 (.slice b2 l2 m2)) hF2 (.slice b3 l3 m3)
  clear J0
  obtain ⟨Z, hZ⟩ : ∃ Z : World, Z = ((wc.setCell ⟨r0, 0, none⟩ (.slice b1 l1 m1)).setCell ⟨r0, 1, none⟩ (.slice b2 l2 m2)).setCell ⟨r0, 2, none⟩ (.slice b3 l3 m3) := ⟨_, rfl⟩
  rw [← hZ] at c1 c2 c3 c4 c5 ⊢
  clear hZ
  obtain ⟨s0, s1', s2'⟩ := rec3 c4
  refine bodyPost_ret (v := .agg #[.slice b1 l1 m1, .slice b2 l2 m2, .slice b3 l3 m3]) (by simp [results, Tryz.results30, go_sem, s0, s1', s2']; try rfl) rfl (HPP.out _ _ _ _ c1 c2 c3 c5)
end Go.Proofs.YtefkdpppcjlflaaGreatDoor.Draw
