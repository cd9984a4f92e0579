import Derived.Test.YtefkdpppcjlflaaGreatDoorIt23
import Derived.Deep.DeepCutAuto
namespace Go.Proofs.YtefkdpppcjlflaaGreatDoor.Draw
open Go Go.RowKit Go.Proofs.YtefkdpppcjlflaaGreatDoor.Mem Go.Proofs.YtefkdpppcjlflaaGreatDoor.Parse
set_option linter.unusedVariables false
set_option linter.unusedSimpArgs false
attribute [local go_sem ↓] Go.wp_at_zero Go.wp_at_succ

set_option maxHeartbeats 6400000 in
set_option maxRecDepth 1000000 in
theorem spoilQ (rF B g rI r0 : Nat) (bs : List UInt8) (w0 wc : World) (hB : B ≤ g) (hBs : B ≤ w0.heap.size) (hl : bs.length ≤ 1048576) (hg0 : g < w0.heap.size) (kk : Int) (hk0 : 0 ≤ kk) (hk1 : kk < 12) (hI1 : rI ≠ g) (hI2 : r0 ≠ g) (hI3 : rI ≠ r0) (hF : rF ≠ g) (hF1 : rF ≠ rI) (hF2 : rF ≠ r0) (hw1 : w0.heap.size ≤ rI) (hw2 : w0.heap.size ≤ r0) (s : DS) (z1 z2 z3 : Value) (L1 : List Veh) (L2 : List Req) (R : List Rd) (hV : L1.length ≤ 900) (hQ : L2.length ≤ 900) (hR : R.length ≤ 900) (J0 : Hid (IT rF B g rI r0 w0 wc bs s z1 z2 z3 ⟨L1, L2, R⟩))  (PP : Ending → World → Prop) (u1 u2 u6 u7 u8 u9 u10 u11 u12 u13 u14 u15 u16 u17 u18 u19 u20 u21 u22 u23 u24 u25 u26 u27 u28 u29 u30 u31 u32 u33 u34 u35 u36 u37 u38 u39 u40 u41 u42 u43 u44 u45 u46 u47 u48 u49 u50 u51 u52 u53 u54 u55 u56 u57 u58 u59 u60 u61 u62 u63 u64 u65 u66 u67 u68 u69 u70 u71 u72 u73 u74 u75 u76 u77 u78 u79 u80 u81 u82 u83 u84 u85 u86 u87 u88 u89 u90 u91 u92 u93 u94 u95 u96 u97 u98 u99 u100 u101 u102 u103 u104 u105 u106 u107 u108 u109 u110 u111 u112 u113 u114 u115 u116 u117 u118 u119 u120 u121 u122 u123 u124 u125 u126 u127 u128 u129 u130 u131 u132 u133 u134 u135 u136 u137 u138 u139 u140 u141 u142 u143 u144 u145 u146 u147 u148 u149 u150 u151 : Value) (K : Act → World → Prop) (hK : ∀ (v1 v2 v6 v7 v8 v9 v10 v11 v12 v13 v14 v15 v16 v17 v18 v19 v20 v21 v22 v23 v24 v25 v26 v27 v28 v29 v30 v31 v32 v33 v34 v35 v36 v37 v38 v39 v40 v41 v42 v43 v44 v45 v46 v47 v48 v49 v50 v51 v52 v53 v54 v55 v56 v57 v58 v59 v60 v61 v62 v63 v64 v65 v66 v67 v68 v69 v70 v71 v72 v73 v74 v75 v76 v77 v78 v79 v80 v81 v82 v83 v84 v85 v86 v87 v88 v89 v90 v91 v92 v93 v94 v95 v96 v97 v98 v99 v100 v101 v102 v103 v104 v105 v106 v107 v108 v109 v110 v111 v112 v113 v114 v115 v116 v117 v118 v119 v120 v121 v122 v123 v124 v125 v126 v127 v128 v129 v130 v131 v132 v133 v134 v135 v136 v137 v138 v139 v140 v141 v142 v143 v144 v145 v146 v147 v148 v149 v150 v151 : Value) (wx : World) (LL : List Req) (q : DS) (_ : Hid (sp3 bs kk s L2 = (LL, q))), Hid (IT rF B g rI r0 w0 wx bs q z1 z2 z3 ⟨L1, LL, R⟩) → K { tmps := #[.pointer (some ⟨g, 0, none⟩), v1, v2, .pointer (some ⟨rI, 0, none⟩), .pointer (some ⟨r0, 0, none⟩), .int .i64 kk, v6, v7, v8, v9, v10, v11, v12, v13, v14, v15, v16, v17, v18, v19, v20, v21, v22, v23, v24, v25, v26, v27, v28, v29, v30, v31, v32, v33, v34, v35, v36, v37, v38, v39, v40, v41, v42, v43, v44, v45, v46, v47, v48, v49, v50, v51, v52, v53, v54, v55, v56, v57, v58, v59, v60, v61, v62, v63, v64, v65, v66, v67, v68, v69, v70, v71, v72, v73, v74, v75, v76, v77, v78, v79, v80, v81, v82, v83, v84, v85, v86, v87, v88, v89, v90, v91, v92, v93, v94, v95, v96, v97, v98, v99, v100, v101, v102, v103, v104, v105, v106, v107, v108, v109, v110, v111, v112, v113, v114, v115, v116, v117, v118, v119, v120, v121, v122, v123, v124, v125, v126, v127, v128, v129, v130, v131, v132, v133, v134, v135, v136, v137, v138, v139, v140, v141, v142, v143, v144, v145, v146, v147, v148, v149, v150, v151], defers := [] } wx) :
    Code.wp Tryz.prog (sL (sR (sR (sR (Tryz.f30.body.getD .skip))))) (Exit.then K (bodyPost Tryz.prog Tryz.f30 PP)) { tmps := #[.pointer (some ⟨g, 0, none⟩), u1, u2, .pointer (some ⟨rI, 0, none⟩), .pointer (some ⟨r0, 0, none⟩), .int .i64 kk, u6, u7, u8, u9, u10, u11, u12, u13, u14, u15, u16, u17, u18, u19, u20, u21, u22, u23, u24, u25, u26, u27, u28, u29, u30, u31, u32, u33, u34, u35, u36, u37, u38, u39, u40, u41, u42, u43, u44, u45, u46, u47, u48, u49, u50, u51, u52, u53, u54, u55, u56, u57, u58, u59, u60, u61, u62, u63, u64, u65, u66, u67, u68, u69, u70, u71, u72, u73, u74, u75, u76, u77, u78, u79, u80, u81, u82, u83, u84, u85, u86, u87, u88, u89, u90, u91, u92, u93, u94, u95, u96, u97, u98, u99, u100, u101, u102, u103, u104, u105, u106, u107, u108, u109, u110, u111, u112, u113, u114, u115, u116, u117, u118, u119, u120, u121, u122, u123, u124, u125, u126, u127, u128, u129, u130, u131, u132, u133, u134, u135, u136, u137, u138, u139, u140, u141, u142, u143, u144, u145, u146, u147, u148, u149, u150, u151], defers := [] } wc := by
  conv =>
    arg 2
    dsimp only [Tryz.f30, Option.getD, sR, sL]
  conv =>
    arg 4
    dsimp only
  dsimp only at hK
  have HKK := Hid.mk hK
  clear hK
  obtain ⟨nn, hnn⟩ : ∃ x, x = L2.length := ⟨_, rfl⟩
  have HNN := Hid.mk hnn
  rw [← hnn] at hQ
  clear hnn
  obtain ⟨az, cz, hzz⟩ : ∃ a c, z2 = .slice a nn c := by have := J0.out.acc.q; simp only at this; rw [← HNN.out] at this; obtain ⟨a, c, h, -⟩ := row_shape this; exact ⟨a, c, h⟩
  subst hzz
  have y0 := (blk_cell J0.out.x 1).trans (show _ = some (.slice az nn cz) from rfl)
  by_cases hc : (4 ≤ kk ∧ kk < 8) ∧ 0 < nn
  · have HC := Hid.mk hc
    obtain ⟨hc4, hp⟩ := hc
    obtain ⟨hc4, hc8⟩ := hc4
    have hp1 : (0 : Int) < (nn : Int) := by omega
    obtain ⟨j, hj⟩ : ∃ x, x = (dBelow bs s nn).1 := ⟨_, rfl⟩
    obtain ⟨t2, ht2⟩ : ∃ x, x = (dBelow bs s nn).2 := ⟨_, rfl⟩
    have K44 : Hid (∀ w, DC B g w bs s → Calls Tryz.prog 26 #[.pointer (some ⟨g, 0, none⟩), .int .i64 (nn : Int)] w fun e w' => e = .returned (.int .i64 (j : Int)) ∧ DC B g w' bs t2 ∧ w.grownBy w' (some g)) := fun w hd => by rw [hj, ht2]; exact belowD B g bs s nn w hB hd hl hp (by omega)
    have hjn : j < nn := by rw [hj]; exact below_lt _ _ hp
    have hjn1 : (j : Int) < (nn : Int) := by omega
    obtain ⟨v, hv⟩ : ∃ v, v = L2.getD j zQ := ⟨_, rfl⟩
    have HV : Hid (L2[j]? = some v) := by unfold Hid; rw [hv, List.getD_eq_getElem?_getD, List.getElem?_eq_getElem (by rw [← HNN.out]; exact hjn)]; rfl
    have HSP : Hid (sp3 bs kk s L2 = (L2.set j (spQ kk v), t2)) := by
      unfold Hid sp3
      rw [← HNN.out, if_pos HC.out, ← hj, ← ht2, ← hv]
    clear hj ht2 hv
    obtain ⟨gv, haz⟩ : ∃ gv, az = some ⟨gv, 0, none⟩ := by
      have := J0.out.acc.q
      simp only at this
      rw [← HNN.out] at this
      rcases this.2 with ⟨h1, h2⟩ | ⟨b, cap, cur, h1, -⟩
      · omega
      · injection h1 with e1; exact ⟨b, e1⟩
    subst haz
    go_wp2_with fail
    refine (K44.out _ J0.out.d).mono ?_
    rintro e wr ⟨rfl, d, gg⟩
    have J1 := Hid.mk (J0.out.call d gg hI1 hI2 hF)
    clear d gg J0 K44 y0
    have RQ : wr.ownsRow w0.heap.size 48 12 (.slice (some ⟨gv, 0, none⟩) nn cz) nn (L2.flatMap Req.cells) := by have := J1.out.acc.q; simp only at this; rw [← HNN.out] at this; exact this
    have c0 := (row_cell RQ (i := j * 12) (u := .int .i64 v.a) ((flat_at Req.len j L2 v 0 HV.out (by decide)).trans rfl)).1
    have c1 := (row_cell RQ (i := j * 12 + 1) (u := .int .i64 v.b) ((flat_at Req.len j L2 v 1 HV.out (by decide)).trans rfl)).1
    have c2 := (row_cell RQ (i := j * 12 + 2) (u := .int .i64 v.x) ((flat_at Req.len j L2 v 2 HV.out (by decide)).trans rfl)).1
    have c3 := (row_cell RQ (i := j * 12 + 3) (u := .int .i64 v.y) ((flat_at Req.len j L2 v 3 HV.out (by decide)).trans rfl)).1
    have c4 := (row_cell RQ (i := j * 12 + 4) (u := .int .i64 v.o) ((flat_at Req.len j L2 v 4 HV.out (by decide)).trans rfl)).1
    have c5 := (row_cell RQ (i := j * 12 + 5) (u := .int .i64 v.c) ((flat_at Req.len j L2 v 5 HV.out (by decide)).trans rfl)).1
    have c6 := (row_cell RQ (i := j * 12 + 6) (u := .int .i64 v.h) ((flat_at Req.len j L2 v 6 HV.out (by decide)).trans rfl)).1
    have c7 := (row_cell RQ (i := j * 12 + 7) (u := .int .i64 v.x') ((flat_at Req.len j L2 v 7 HV.out (by decide)).trans rfl)).1
    have c8 := (row_cell RQ (i := j * 12 + 8) (u := .int .i64 v.y') ((flat_at Req.len j L2 v 8 HV.out (by decide)).trans rfl)).1
    have c9 := (row_cell RQ (i := j * 12 + 9) (u := .int .i64 v.o') ((flat_at Req.len j L2 v 9 HV.out (by decide)).trans rfl)).1
    have c10 := (row_cell RQ (i := j * 12 + 10) (u := .int .i64 v.c') ((flat_at Req.len j L2 v 10 HV.out (by decide)).trans rfl)).1
    have c11 := (row_cell RQ (i := j * 12 + 11) (u := .int .i64 v.h') ((flat_at Req.len j L2 v 11 HV.out (by decide)).trans rfl)).1
    clear RQ
    have y0 := (blk_cell J1.out.x 1).trans (show _ = some (.slice (some ⟨gv, 0, none⟩) nn cz) from rfl)
    have hgw : g < wr.heap.size := J1.out.d.lt
    have hIw : rI < wr.heap.size := blk_lt J1.out.x
    have hIz : r0 < wr.heap.size := blk_lt J1.out.z
    have HLT := Hid.mk J1.out.lt
    have n1 : g ≠ wr.heap.size := by omega
    have n2 : rI ≠ wr.heap.size := by omega
    have n3 : r0 ≠ wr.heap.size := by omega
    have n4 : w0.heap.size ≤ wr.heap.size := by omega
    have n5 : B ≤ wr.heap.size := by omega
    have n6 : rF ≠ wr.heap.size := Nat.ne_of_lt (blk_lt J1.out.f)
    obtain ⟨W, hW⟩ : ∃ W, W = wr.alloc (.cells #[.int .i64 v.a, .int .i64 v.b, .int .i64 v.x, .int .i64 v.y, .int .i64 v.o, .int .i64 v.c, .int .i64 v.h, .int .i64 v.x', .int .i64 v.y', .int .i64 v.o', .int .i64 v.c', .int .i64 v.h'] 48) := ⟨_, rfl⟩
    have JW : Hid (IT rF B g rI r0 w0 W bs t2 z1 (.slice (some ⟨gv, 0, none⟩) nn cz) z3 ⟨L1, L2, R⟩) := by rw [hW]; exact J1.out.below (by omega) (below_alloc' (Below.refl _ _) _)
    have XW : Hid (W.heap[wr.heap.size]? = some (.cells #[.int .i64 v.a, .int .i64 v.b, .int .i64 v.x, .int .i64 v.y, .int .i64 v.o, .int .i64 v.c, .int .i64 v.h, .int .i64 v.x', .int .i64 v.y', .int .i64 v.o', .int .i64 v.c', .int .i64 v.h'] 48)) := by rw [hW]; exact blk_new _ _
    go_upto_region 17 with fail
    rw [← hW]
    clear hW y0 c0 c1 c2 c3 c4 c5 c6 c7 c8 c9 c10 c11
    obtain ⟨Z, hZ⟩ : ∃ Z, Z = W := ⟨_, rfl⟩
    rw [← hZ] at JW XW ⊢
    clear hZ J1
    rcases (show kk = 4 ∨ kk = 5 ∨ kk = 6 ∨ kk = 7 by omega) with hkk | hkk | hkk | hkk
    · have HKE := Hid.mk hkk
      rw [hkk] at HSP HKK ⊢
      clear hkk HKE hk0 hk1 hc4 hc8 HC
      have c0 := (blk_cell XW.out 0).trans (show _ = some (.int .i64 v.a) from rfl)
      have f0 := blk_unfrozen XW.out 0
      go_upto_region 25 with fail
      clear c0 f0
      have JS1 := Hid.mk (JW.out.own (i := 0) (v := .int .i64 (-1)) n5 n1 n2 n3 n4 HLT.out n6)
      have XS1 := Hid.mk (blk_set XW.out 0 (.int .i64 (-1)))
      simp only [List.setIfInBounds_toArray, List.set_cons_zero, List.set_cons_succ] at XS1
      clear JW XW
      obtain ⟨Y, hY⟩ : ∃ Y, Y = Z.setCell ⟨wr.heap.size, 0, none⟩ (.int .i64 (-1)) := ⟨_, rfl⟩
      rw [← hY] at JS1 XS1 ⊢
      clear hY
      have r0 := (blk_cell XS1.out 0).trans (show _ = some (.int .i64 (-1)) from rfl)
      have r1 := (blk_cell XS1.out 1).trans (show _ = some (.int .i64 v.b) from rfl)
      have r2 := (blk_cell XS1.out 2).trans (show _ = some (.int .i64 v.x) from rfl)
      have r3 := (blk_cell XS1.out 3).trans (show _ = some (.int .i64 v.y) from rfl)
      have r4 := (blk_cell XS1.out 4).trans (show _ = some (.int .i64 v.o) from rfl)
      have r5 := (blk_cell XS1.out 5).trans (show _ = some (.int .i64 v.c) from rfl)
      have r6 := (blk_cell XS1.out 6).trans (show _ = some (.int .i64 v.h) from rfl)
      have r7 := (blk_cell XS1.out 7).trans (show _ = some (.int .i64 v.x') from rfl)
      have r8 := (blk_cell XS1.out 8).trans (show _ = some (.int .i64 v.y') from rfl)
      have r9 := (blk_cell XS1.out 9).trans (show _ = some (.int .i64 v.o') from rfl)
      have r10 := (blk_cell XS1.out 10).trans (show _ = some (.int .i64 v.c') from rfl)
      have r11 := (blk_cell XS1.out 11).trans (show _ = some (.int .i64 v.h') from rfl)
      have y0 := (blk_cell JS1.out.x 1).trans (show _ = some (.slice (some ⟨gv, 0, none⟩) nn cz) from rfl)
      have RQ : Y.ownsRow w0.heap.size 48 12 (.slice (some ⟨gv, 0, none⟩) nn cz) nn (L2.flatMap Req.cells) := by have := JS1.out.acc.q; simp only at this; rw [← HNN.out] at this; exact this
      obtain ⟨c0, f0⟩ := row_cell RQ (i := j * 12) (u := .int .i64 v.a) ((flat_at Req.len j L2 v 0 HV.out (by decide)).trans rfl)
      obtain ⟨c1, f1⟩ := row_cell RQ (i := j * 12 + 1) (u := .int .i64 v.b) ((flat_at Req.len j L2 v 1 HV.out (by decide)).trans rfl)
      obtain ⟨c2, f2⟩ := row_cell RQ (i := j * 12 + 2) (u := .int .i64 v.x) ((flat_at Req.len j L2 v 2 HV.out (by decide)).trans rfl)
      obtain ⟨c3, f3⟩ := row_cell RQ (i := j * 12 + 3) (u := .int .i64 v.y) ((flat_at Req.len j L2 v 3 HV.out (by decide)).trans rfl)
      obtain ⟨c4, f4⟩ := row_cell RQ (i := j * 12 + 4) (u := .int .i64 v.o) ((flat_at Req.len j L2 v 4 HV.out (by decide)).trans rfl)
      obtain ⟨c5, f5⟩ := row_cell RQ (i := j * 12 + 5) (u := .int .i64 v.c) ((flat_at Req.len j L2 v 5 HV.out (by decide)).trans rfl)
      obtain ⟨c6, f6⟩ := row_cell RQ (i := j * 12 + 6) (u := .int .i64 v.h) ((flat_at Req.len j L2 v 6 HV.out (by decide)).trans rfl)
      obtain ⟨c7, f7⟩ := row_cell RQ (i := j * 12 + 7) (u := .int .i64 v.x') ((flat_at Req.len j L2 v 7 HV.out (by decide)).trans rfl)
      obtain ⟨c8, f8⟩ := row_cell RQ (i := j * 12 + 8) (u := .int .i64 v.y') ((flat_at Req.len j L2 v 8 HV.out (by decide)).trans rfl)
      obtain ⟨c9, f9⟩ := row_cell RQ (i := j * 12 + 9) (u := .int .i64 v.o') ((flat_at Req.len j L2 v 9 HV.out (by decide)).trans rfl)
      obtain ⟨c10, f10⟩ := row_cell RQ (i := j * 12 + 10) (u := .int .i64 v.c') ((flat_at Req.len j L2 v 10 HV.out (by decide)).trans rfl)
      obtain ⟨c11, f11⟩ := row_cell RQ (i := j * 12 + 11) (u := .int .i64 v.h') ((flat_at Req.len j L2 v 11 HV.out (by decide)).trans rfl)
      clear RQ
      go_wp2_with fail
      have J9 := Hid.mk (JS1.out.putQ (v' := spQ 4 v) HNN.out HV.out hBs)
      exact HKK.out _ _ _ _ _ _ _ _ _ _ _ _ _ _ _ _ _ _ _ _ _ _ _ _ _ _ _ _ _ _ _ _ _ _ _ _ _ _ _ _ _ _ _ _ _ _ _ _ _ _ _ _ _ _ _ _ _ _ _ _ _ _ _ _ _ _ _ _ _ _ _ _ _ _ _ _ _ _ _ _ _ _ _ _ _ _ _ _ _ _ _ _ _ _ _ _ _ _ _ _ _ _ _ _ _ _ _ _ _ _ _ _ _ _ _ _ _ _ _ _ _ _ _ _ _ _ _ _ _ _ _ _ _ _ _ _ _ _ _ _ _ _ _ _ _ _ _ _ _ _ _ HSP J9
    · have HKE := Hid.mk hkk
      rw [hkk] at HSP HKK ⊢
      clear hkk HKE hk0 hk1 hc4 hc8 HC
      have c0 := (blk_cell XW.out 1).trans (show _ = some (.int .i64 v.b) from rfl)
      have f0 := blk_unfrozen XW.out 1
      go_upto_region 25 with fail
      clear c0 f0
      have JS2 := Hid.mk (JW.out.own (i := 1) (v := .int .i64 (-1)) n5 n1 n2 n3 n4 HLT.out n6)
      have XS2 := Hid.mk (blk_set XW.out 1 (.int .i64 (-1)))
      simp only [List.setIfInBounds_toArray, List.set_cons_zero, List.set_cons_succ] at XS2
      clear JW XW
      obtain ⟨Y, hY⟩ : ∃ Y, Y = Z.setCell ⟨wr.heap.size, 1, none⟩ (.int .i64 (-1)) := ⟨_, rfl⟩
      rw [← hY] at JS2 XS2 ⊢
      clear hY
      have r0 := (blk_cell XS2.out 0).trans (show _ = some (.int .i64 v.a) from rfl)
      have r1 := (blk_cell XS2.out 1).trans (show _ = some (.int .i64 (-1)) from rfl)
      have r2 := (blk_cell XS2.out 2).trans (show _ = some (.int .i64 v.x) from rfl)
      have r3 := (blk_cell XS2.out 3).trans (show _ = some (.int .i64 v.y) from rfl)
      have r4 := (blk_cell XS2.out 4).trans (show _ = some (.int .i64 v.o) from rfl)
      have r5 := (blk_cell XS2.out 5).trans (show _ = some (.int .i64 v.c) from rfl)
      have r6 := (blk_cell XS2.out 6).trans (show _ = some (.int .i64 v.h) from rfl)
      have r7 := (blk_cell XS2.out 7).trans (show _ = some (.int .i64 v.x') from rfl)
      have r8 := (blk_cell XS2.out 8).trans (show _ = some (.int .i64 v.y') from rfl)
      have r9 := (blk_cell XS2.out 9).trans (show _ = some (.int .i64 v.o') from rfl)
      have r10 := (blk_cell XS2.out 10).trans (show _ = some (.int .i64 v.c') from rfl)
      have r11 := (blk_cell XS2.out 11).trans (show _ = some (.int .i64 v.h') from rfl)
      have y0 := (blk_cell JS2.out.x 1).trans (show _ = some (.slice (some ⟨gv, 0, none⟩) nn cz) from rfl)
      have RQ : Y.ownsRow w0.heap.size 48 12 (.slice (some ⟨gv, 0, none⟩) nn cz) nn (L2.flatMap Req.cells) := by have := JS2.out.acc.q; simp only at this; rw [← HNN.out] at this; exact this
      obtain ⟨c0, f0⟩ := row_cell RQ (i := j * 12) (u := .int .i64 v.a) ((flat_at Req.len j L2 v 0 HV.out (by decide)).trans rfl)
      obtain ⟨c1, f1⟩ := row_cell RQ (i := j * 12 + 1) (u := .int .i64 v.b) ((flat_at Req.len j L2 v 1 HV.out (by decide)).trans rfl)
      obtain ⟨c2, f2⟩ := row_cell RQ (i := j * 12 + 2) (u := .int .i64 v.x) ((flat_at Req.len j L2 v 2 HV.out (by decide)).trans rfl)
      obtain ⟨c3, f3⟩ := row_cell RQ (i := j * 12 + 3) (u := .int .i64 v.y) ((flat_at Req.len j L2 v 3 HV.out (by decide)).trans rfl)
      obtain ⟨c4, f4⟩ := row_cell RQ (i := j * 12 + 4) (u := .int .i64 v.o) ((flat_at Req.len j L2 v 4 HV.out (by decide)).trans rfl)
      obtain ⟨c5, f5⟩ := row_cell RQ (i := j * 12 + 5) (u := .int .i64 v.c) ((flat_at Req.len j L2 v 5 HV.out (by decide)).trans rfl)
      obtain ⟨c6, f6⟩ := row_cell RQ (i := j * 12 + 6) (u := .int .i64 v.h) ((flat_at Req.len j L2 v 6 HV.out (by decide)).trans rfl)
      obtain ⟨c7, f7⟩ := row_cell RQ (i := j * 12 + 7) (u := .int .i64 v.x') ((flat_at Req.len j L2 v 7 HV.out (by decide)).trans rfl)
      obtain ⟨c8, f8⟩ := row_cell RQ (i := j * 12 + 8) (u := .int .i64 v.y') ((flat_at Req.len j L2 v 8 HV.out (by decide)).trans rfl)
      obtain ⟨c9, f9⟩ := row_cell RQ (i := j * 12 + 9) (u := .int .i64 v.o') ((flat_at Req.len j L2 v 9 HV.out (by decide)).trans rfl)
      obtain ⟨c10, f10⟩ := row_cell RQ (i := j * 12 + 10) (u := .int .i64 v.c') ((flat_at Req.len j L2 v 10 HV.out (by decide)).trans rfl)
      obtain ⟨c11, f11⟩ := row_cell RQ (i := j * 12 + 11) (u := .int .i64 v.h') ((flat_at Req.len j L2 v 11 HV.out (by decide)).trans rfl)
      clear RQ
      go_wp2_with fail
      have J9 := Hid.mk (JS2.out.putQ (v' := spQ 5 v) HNN.out HV.out hBs)
      exact HKK.out _ _ _ _ _ _ _ _ _ _ _ _ _ _ _ _ _ _ _ _ _ _ _ _ _ _ _ _ _ _ _ _ _ _ _ _ _ _ _ _ _ _ _ _ _ _ _ _ _ _ _ _ _ _ _ _ _ _ _ _ _ _ _ _ _ _ _ _ _ _ _ _ _ _ _ _ _ _ _ _ _ _ _ _ _ _ _ _ _ _ _ _ _ _ _ _ _ _ _ _ _ _ _ _ _ _ _ _ _ _ _ _ _ _ _ _ _ _ _ _ _ _ _ _ _ _ _ _ _ _ _ _ _ _ _ _ _ _ _ _ _ _ _ _ _ _ _ _ _ _ _ HSP J9
    · have HKE := Hid.mk hkk
      rw [hkk] at HSP HKK ⊢
      clear hkk HKE hk0 hk1 hc4 hc8 HC
      have c0 := (blk_cell XW.out 5).trans (show _ = some (.int .i64 v.c) from rfl)
      have f0 := blk_unfrozen XW.out 5
      go_upto_region 25 with fail
      clear c0 f0
      have JS3 := Hid.mk (JW.out.own (i := 5) (v := .int .i64 1000001) n5 n1 n2 n3 n4 HLT.out n6)
      have XS3 := Hid.mk (blk_set XW.out 5 (.int .i64 1000001))
      simp only [List.setIfInBounds_toArray, List.set_cons_zero, List.set_cons_succ] at XS3
      clear JW XW
      obtain ⟨Y, hY⟩ : ∃ Y, Y = Z.setCell ⟨wr.heap.size, 5, none⟩ (.int .i64 1000001) := ⟨_, rfl⟩
      rw [← hY] at JS3 XS3 ⊢
      clear hY
      have r0 := (blk_cell XS3.out 0).trans (show _ = some (.int .i64 v.a) from rfl)
      have r1 := (blk_cell XS3.out 1).trans (show _ = some (.int .i64 v.b) from rfl)
      have r2 := (blk_cell XS3.out 2).trans (show _ = some (.int .i64 v.x) from rfl)
      have r3 := (blk_cell XS3.out 3).trans (show _ = some (.int .i64 v.y) from rfl)
      have r4 := (blk_cell XS3.out 4).trans (show _ = some (.int .i64 v.o) from rfl)
      have r5 := (blk_cell XS3.out 5).trans (show _ = some (.int .i64 1000001) from rfl)
      have r6 := (blk_cell XS3.out 6).trans (show _ = some (.int .i64 v.h) from rfl)
      have r7 := (blk_cell XS3.out 7).trans (show _ = some (.int .i64 v.x') from rfl)
      have r8 := (blk_cell XS3.out 8).trans (show _ = some (.int .i64 v.y') from rfl)
      have r9 := (blk_cell XS3.out 9).trans (show _ = some (.int .i64 v.o') from rfl)
      have r10 := (blk_cell XS3.out 10).trans (show _ = some (.int .i64 v.c') from rfl)
      have r11 := (blk_cell XS3.out 11).trans (show _ = some (.int .i64 v.h') from rfl)
      have y0 := (blk_cell JS3.out.x 1).trans (show _ = some (.slice (some ⟨gv, 0, none⟩) nn cz) from rfl)
      have RQ : Y.ownsRow w0.heap.size 48 12 (.slice (some ⟨gv, 0, none⟩) nn cz) nn (L2.flatMap Req.cells) := by have := JS3.out.acc.q; simp only at this; rw [← HNN.out] at this; exact this
      obtain ⟨c0, f0⟩ := row_cell RQ (i := j * 12) (u := .int .i64 v.a) ((flat_at Req.len j L2 v 0 HV.out (by decide)).trans rfl)
      obtain ⟨c1, f1⟩ := row_cell RQ (i := j * 12 + 1) (u := .int .i64 v.b) ((flat_at Req.len j L2 v 1 HV.out (by decide)).trans rfl)
      obtain ⟨c2, f2⟩ := row_cell RQ (i := j * 12 + 2) (u := .int .i64 v.x) ((flat_at Req.len j L2 v 2 HV.out (by decide)).trans rfl)
      obtain ⟨c3, f3⟩ := row_cell RQ (i := j * 12 + 3) (u := .int .i64 v.y) ((flat_at Req.len j L2 v 3 HV.out (by decide)).trans rfl)
      obtain ⟨c4, f4⟩ := row_cell RQ (i := j * 12 + 4) (u := .int .i64 v.o) ((flat_at Req.len j L2 v 4 HV.out (by decide)).trans rfl)
      obtain ⟨c5, f5⟩ := row_cell RQ (i := j * 12 + 5) (u := .int .i64 v.c) ((flat_at Req.len j L2 v 5 HV.out (by decide)).trans rfl)
      obtain ⟨c6, f6⟩ := row_cell RQ (i := j * 12 + 6) (u := .int .i64 v.h) ((flat_at Req.len j L2 v 6 HV.out (by decide)).trans rfl)
      obtain ⟨c7, f7⟩ := row_cell RQ (i := j * 12 + 7) (u := .int .i64 v.x') ((flat_at Req.len j L2 v 7 HV.out (by decide)).trans rfl)
      obtain ⟨c8, f8⟩ := row_cell RQ (i := j * 12 + 8) (u := .int .i64 v.y') ((flat_at Req.len j L2 v 8 HV.out (by decide)).trans rfl)
      obtain ⟨c9, f9⟩ := row_cell RQ (i := j * 12 + 9) (u := .int .i64 v.o') ((flat_at Req.len j L2 v 9 HV.out (by decide)).trans rfl)
      obtain ⟨c10, f10⟩ := row_cell RQ (i := j * 12 + 10) (u := .int .i64 v.c') ((flat_at Req.len j L2 v 10 HV.out (by decide)).trans rfl)
      obtain ⟨c11, f11⟩ := row_cell RQ (i := j * 12 + 11) (u := .int .i64 v.h') ((flat_at Req.len j L2 v 11 HV.out (by decide)).trans rfl)
      clear RQ
      go_wp2_with fail
      have J9 := Hid.mk (JS3.out.putQ (v' := spQ 6 v) HNN.out HV.out hBs)
      exact HKK.out _ _ _ _ _ _ _ _ _ _ _ _ _ _ _ _ _ _ _ _ _ _ _ _ _ _ _ _ _ _ _ _ _ _ _ _ _ _ _ _ _ _ _ _ _ _ _ _ _ _ _ _ _ _ _ _ _ _ _ _ _ _ _ _ _ _ _ _ _ _ _ _ _ _ _ _ _ _ _ _ _ _ _ _ _ _ _ _ _ _ _ _ _ _ _ _ _ _ _ _ _ _ _ _ _ _ _ _ _ _ _ _ _ _ _ _ _ _ _ _ _ _ _ _ _ _ _ _ _ _ _ _ _ _ _ _ _ _ _ _ _ _ _ _ _ _ _ _ _ _ _ HSP J9
    · have HKE := Hid.mk hkk
      rw [hkk] at HSP HKK ⊢
      clear hkk HKE hk0 hk1 hc4 hc8 HC
      have c0 := (blk_cell XW.out 11).trans (show _ = some (.int .i64 v.h') from rfl)
      have f0 := blk_unfrozen XW.out 11
      go_upto_region 25 with fail
      clear c0 f0
      have JS4 := Hid.mk (JW.out.own (i := 11) (v := .int .i64 (-1)) n5 n1 n2 n3 n4 HLT.out n6)
      have XS4 := Hid.mk (blk_set XW.out 11 (.int .i64 (-1)))
      simp only [List.setIfInBounds_toArray, List.set_cons_zero, List.set_cons_succ] at XS4
      clear JW XW
      obtain ⟨Y, hY⟩ : ∃ Y, Y = Z.setCell ⟨wr.heap.size, 11, none⟩ (.int .i64 (-1)) := ⟨_, rfl⟩
      rw [← hY] at JS4 XS4 ⊢
      clear hY
      have r0 := (blk_cell XS4.out 0).trans (show _ = some (.int .i64 v.a) from rfl)
      have r1 := (blk_cell XS4.out 1).trans (show _ = some (.int .i64 v.b) from rfl)
      have r2 := (blk_cell XS4.out 2).trans (show _ = some (.int .i64 v.x) from rfl)
      have r3 := (blk_cell XS4.out 3).trans (show _ = some (.int .i64 v.y) from rfl)
      have r4 := (blk_cell XS4.out 4).trans (show _ = some (.int .i64 v.o) from rfl)
      have r5 := (blk_cell XS4.out 5).trans (show _ = some (.int .i64 v.c) from rfl)
      have r6 := (blk_cell XS4.out 6).trans (show _ = some (.int .i64 v.h) from rfl)
      have r7 := (blk_cell XS4.out 7).trans (show _ = some (.int .i64 v.x') from rfl)
      have r8 := (blk_cell XS4.out 8).trans (show _ = some (.int .i64 v.y') from rfl)
      have r9 := (blk_cell XS4.out 9).trans (show _ = some (.int .i64 v.o') from rfl)
      have r10 := (blk_cell XS4.out 10).trans (show _ = some (.int .i64 v.c') from rfl)
      have r11 := (blk_cell XS4.out 11).trans (show _ = some (.int .i64 (-1)) from rfl)
      have y0 := (blk_cell JS4.out.x 1).trans (show _ = some (.slice (some ⟨gv, 0, none⟩) nn cz) from rfl)
      have RQ : Y.ownsRow w0.heap.size 48 12 (.slice (some ⟨gv, 0, none⟩) nn cz) nn (L2.flatMap Req.cells) := by have := JS4.out.acc.q; simp only at this; rw [← HNN.out] at this; exact this
      obtain ⟨c0, f0⟩ := row_cell RQ (i := j * 12) (u := .int .i64 v.a) ((flat_at Req.len j L2 v 0 HV.out (by decide)).trans rfl)
      obtain ⟨c1, f1⟩ := row_cell RQ (i := j * 12 + 1) (u := .int .i64 v.b) ((flat_at Req.len j L2 v 1 HV.out (by decide)).trans rfl)
      obtain ⟨c2, f2⟩ := row_cell RQ (i := j * 12 + 2) (u := .int .i64 v.x) ((flat_at Req.len j L2 v 2 HV.out (by decide)).trans rfl)
      obtain ⟨c3, f3⟩ := row_cell RQ (i := j * 12 + 3) (u := .int .i64 v.y) ((flat_at Req.len j L2 v 3 HV.out (by decide)).trans rfl)
      obtain ⟨c4, f4⟩ := row_cell RQ (i := j * 12 + 4) (u := .int .i64 v.o) ((flat_at Req.len j L2 v 4 HV.out (by decide)).trans rfl)
      obtain ⟨c5, f5⟩ := row_cell RQ (i := j * 12 + 5) (u := .int .i64 v.c) ((flat_at Req.len j L2 v 5 HV.out (by decide)).trans rfl)
      obtain ⟨c6, f6⟩ := row_cell RQ (i := j * 12 + 6) (u := .int .i64 v.h) ((flat_at Req.len j L2 v 6 HV.out (by decide)).trans rfl)
      obtain ⟨c7, f7⟩ := row_cell RQ (i := j * 12 + 7) (u := .int .i64 v.x') ((flat_at Req.len j L2 v 7 HV.out (by decide)).trans rfl)
      obtain ⟨c8, f8⟩ := row_cell RQ (i := j * 12 + 8) (u := .int .i64 v.y') ((flat_at Req.len j L2 v 8 HV.out (by decide)).trans rfl)
      obtain ⟨c9, f9⟩ := row_cell RQ (i := j * 12 + 9) (u := .int .i64 v.o') ((flat_at Req.len j L2 v 9 HV.out (by decide)).trans rfl)
      obtain ⟨c10, f10⟩ := row_cell RQ (i := j * 12 + 10) (u := .int .i64 v.c') ((flat_at Req.len j L2 v 10 HV.out (by decide)).trans rfl)
      obtain ⟨c11, f11⟩ := row_cell RQ (i := j * 12 + 11) (u := .int .i64 v.h') ((flat_at Req.len j L2 v 11 HV.out (by decide)).trans rfl)
      clear RQ
      go_wp2_with fail
      have J9 := Hid.mk (JS4.out.putQ (v' := spQ 7 v) HNN.out HV.out hBs)
      exact HKK.out _ _ _ _ _ _ _ _ _ _ _ _ _ _ _ _ _ _ _ _ _ _ _ _ _ _ _ _ _ _ _ _ _ _ _ _ _ _ _ _ _ _ _ _ _ _ _ _ _ _ _ _ _ _ _ _ _ _ _ _ _ _ _ _ _ _ _ _ _ _ _ _ _ _ _ _ _ _ _ _ _ _ _ _ _ _ _ _ _ _ _ _ _ _ _ _ _ _ _ _ _ _ _ _ _ _ _ _ _ _ _ _ _ _ _ _ _ _ _ _ _ _ _ _ _ _ _ _ _ _ _ _ _ _ _ _ _ _ _ _ _ _ _ _ _ _ _ _ _ _ _ HSP J9
  · have HC := Hid.mk hc
    have HSP : Hid (sp3 bs kk s L2 = (L2, s)) := by unfold Hid sp3; rw [← HNN.out, if_neg HC.out]
    by_cases h4 : 4 ≤ kk
    · by_cases h8 : kk < 8
      · have hp1 : ¬ 0 < nn := fun h => HC.out ⟨⟨h4, h8⟩, h⟩
        have hp2 : decide ((0 : Int) < (nn : Int)) = false := by simp; omega
        clear hc
        go_wp2_with fail
        exact HKK.out _ _ _ _ _ _ _ _ _ _ _ _ _ _ _ _ _ _ _ _ _ _ _ _ _ _ _ _ _ _ _ _ _ _ _ _ _ _ _ _ _ _ _ _ _ _ _ _ _ _ _ _ _ _ _ _ _ _ _ _ _ _ _ _ _ _ _ _ _ _ _ _ _ _ _ _ _ _ _ _ _ _ _ _ _ _ _ _ _ _ _ _ _ _ _ _ _ _ _ _ _ _ _ _ _ _ _ _ _ _ _ _ _ _ _ _ _ _ _ _ _ _ _ _ _ _ _ _ _ _ _ _ _ _ _ _ _ _ _ _ _ _ _ _ _ _ _ _ _ _ _ HSP J0
      · have h5 : decide (kk < 8) = false := by simp; omega
        clear hc h8
        go_wp2_with fail
        exact HKK.out _ _ _ _ _ _ _ _ _ _ _ _ _ _ _ _ _ _ _ _ _ _ _ _ _ _ _ _ _ _ _ _ _ _ _ _ _ _ _ _ _ _ _ _ _ _ _ _ _ _ _ _ _ _ _ _ _ _ _ _ _ _ _ _ _ _ _ _ _ _ _ _ _ _ _ _ _ _ _ _ _ _ _ _ _ _ _ _ _ _ _ _ _ _ _ _ _ _ _ _ _ _ _ _ _ _ _ _ _ _ _ _ _ _ _ _ _ _ _ _ _ _ _ _ _ _ _ _ _ _ _ _ _ _ _ _ _ _ _ _ _ _ _ _ _ _ _ _ _ _ _ HSP J0
    · have h5 : decide (4 ≤ kk) = false := by simp; omega
      clear hc h4
      go_wp2_with fail
      exact HKK.out _ _ _ _ _ _ _ _ _ _ _ _ _ _ _ _ _ _ _ _ _ _ _ _ _ _ _ _ _ _ _ _ _ _ _ _ _ _ _ _ _ _ _ _ _ _ _ _ _ _ _ _ _ _ _ _ _ _ _ _ _ _ _ _ _ _ _ _ _ _ _ _ _ _ _ _ _ _ _ _ _ _ _ _ _ _ _ _ _ _ _ _ _ _ _ _ _ _ _ _ _ _ _ _ _ _ _ _ _ _ _ _ _ _ _ _ _ _ _ _ _ _ _ _ _ _ _ _ _ _ _ _ _ _ _ _ _ _ _ _ _ _ _ _ _ _ _ _ _ _ _ HSP J0
end Go.Proofs.YtefkdpppcjlflaaGreatDoor.Draw
