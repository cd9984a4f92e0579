import Derived.Test.YtefkdpppcjlflaaGreatDoorIt15
import Derived.Deep.DeepCutAuto
namespace Go.Proofs.YtefkdpppcjlflaaGreatDoor.Draw
open Go Go.RowKit Go.Proofs.YtefkdpppcjlflaaGreatDoor.Mem Go.Proofs.YtefkdpppcjlflaaGreatDoor.Parse
set_option linter.unusedVariables false
set_option linter.unusedSimpArgs false
attribute [local go_sem ↓] Go.wp_at_zero Go.wp_at_succ


def sL : Code → Code
  | .seq a _ => a
  | c => c
def sR : Code → Code
  | .seq _ b => b
  | c => c
def cT : Code → Code
  | .cond _ a _ => a
  | c => c
def bk : Code → Code
  | .block _ a => a
  | c => c
def lp : Code → Code
  | .loop a => a
  | c => c
theorem put_defers (a : Act) (d : Option Nat) (v : Value) : (a.put d v).defers = a.defers := by cases d <;> rfl
theorem then_self (Q : Exit → Act → World → Prop) : Exit.then (Q .normal) Q = Q := by
  funext e a w
  cases e <;> rfl
set_option maxHeartbeats 6400000 in
set_option maxRecDepth 1000000 in
theorem appSeg (B g : Nat) (bs : List UInt8) (w wc : World) (hB : B ≤ g) (hBs : B ≤ w.heap.size) (hl : bs.length ≤ 1048576) (L1 : List Veh) (L2 : List Req) (R : List Rd) (q1 : DS) (z1 z2 z : Value) (n x' : Nat) (y' : Int) (hnb : n ≤ 1860) (by0 : 0 ≤ y') (by1 : y' < n) (bx : x' ≤ 10) (hR : R.length ≤ 4) (hI1 : w.heap.size + 1 ≠ g) (hI2 : w.heap.size ≠ g) (J4 : Hid (IS B g (w.heap.size + 1) w.heap.size w wc bs q1 z1 z2 z ⟨L1, L2, R⟩)) (PP : Ending → World → Prop) (u1 u2 u3 u4 u5 u6 u8 u9 u10 u11 u12 u13 u14 u16 u19 u20 u21 u22 u23 u24 u25 u26 u27 u28 u29 u30 u31 u32 u33 u34 u35 u36 u37 u38 u39 u40 u41 u42 u43 u44 u45 u46 u47 u48 u49 u50 u51 u52 u53 u54 u55 u56 u57 u58 u59 u60 u61 u62 u63 u64 u65 u66 u67 u68 u69 u70 u71 u72 u73 u74 u75 u76 u77 u78 u79 u80 u81 u82 u83 u84 u85 u86 u87 u88 u89 u90 u91 u92 u93 u94 u95 u96 u97 u98 u99 u100 u101 u102 u103 u104 u105 u106 u107 u108 u109 u110 u111 u112 u113 u114 u115 u116 u117 u118 u119 u120 u121 u122 u123 u124 u125 u126 u127 u128 u129 u130 u131 u132 u133 u134 u135 u136 u137 u138 u139 u140 u141 u142 u143 u144 u145 u146 u147 u148 u149 u150 u151 u152 u153 u154 u155 u156 u157 u158 u159 u160 u161 u162 u163 u164 u165 u166 u167 u168 u169 u170 u171 u172 u173 u174 u175 u176 u177 u178 u179 u180 u181 u182 u183 u184 u185 u186 u187 : Value) (Q : Exit → Act → World → Prop) (hP : ∀ (c : List PanicEntry) (a a' : Act) (w : World), a.defers = a'.defers → Q (.panic c) a w → Q (.panic c) a' w) (hQ : ∀ (v125 v126 v127 v128 v129 v130 v131 v132 v133 v134 v135 v136 v137 v138 v139 v140 v141 v142 : Value) (wx : World) (R' : List Rd) (zz : Value) (qq : DS), Hid ((if (x' : Int) ≠ y' ∧ x' < n then (R ++ [⟨(x' : Int), y', ((dBelow bs q1 40).1 : Int)⟩], (dBelow bs q1 40).2) else (R, q1)) = (R', qq)) → Hid (IS B g (w.heap.size + 1) w.heap.size w wx bs qq z1 z2 zz ⟨L1, L2, R'⟩) → Q .normal { tmps := #[.pointer (some ⟨g, 0, none⟩), u1, u2, u3, u4, u5, u6, .pointer (some ⟨w.heap.size + 1, 0, none⟩), u8, u9, u10, u11, u12, u13, u14, .int .i64 (n : Int), u16, .int .i64 (x' : Int), .int .i64 y', u19, u20, u21, u22, u23, u24, u25, u26, u27, u28, u29, u30, u31, u32, u33, u34, u35, u36, u37, u38, u39, u40, u41, u42, u43, u44, u45, u46, u47, u48, u49, u50, u51, u52, u53, u54, u55, u56, u57, u58, u59, u60, u61, u62, u63, u64, u65, u66, u67, u68, u69, u70, u71, u72, u73, u74, u75, u76, u77, u78, u79, u80, u81, u82, u83, u84, u85, u86, u87, u88, u89, u90, u91, u92, u93, u94, u95, u96, u97, u98, u99, u100, u101, u102, u103, u104, u105, u106, u107, u108, u109, u110, u111, u112, u113, u114, u115, u116, u117, u118, u119, u120, u121, u122, u123, u124, v125, v126, v127, v128, v129, v130, v131, v132, v133, v134, v135, v136, v137, v138, v139, v140, v141, v142, u143, u144, u145, u146, u147, u148, u149, u150, u151, u152, u153, u154, u155, u156, u157, u158, u159, u160, u161, u162, u163, u164, u165, u166, u167, u168, u169, u170, u171, u172, u173, u174, u175, u176, u177, u178, u179, u180, u181, u182, u183, u184, u185, u186, u187], defers := [] } wx) :
    Code.wp Tryz.prog (sR (sR (bk (sL (sR (lp (bk (sR (sR (sR (sR (cT (sR (sL (sR (sR (sR (sR (sR (sR (sR (sR (sR (sR (Tryz.f10.body.getD .skip))))))))))))))))))))))))) Q { tmps := #[.pointer (some ⟨g, 0, none⟩), u1, u2, u3, u4, u5, u6, .pointer (some ⟨w.heap.size + 1, 0, none⟩), u8, u9, u10, u11, u12, u13, u14, .int .i64 (n : Int), u16, .int .i64 (x' : Int), .int .i64 y', u19, u20, u21, u22, u23, u24, u25, u26, u27, u28, u29, u30, u31, u32, u33, u34, u35, u36, u37, u38, u39, u40, u41, u42, u43, u44, u45, u46, u47, u48, u49, u50, u51, u52, u53, u54, u55, u56, u57, u58, u59, u60, u61, u62, u63, u64, u65, u66, u67, u68, u69, u70, u71, u72, u73, u74, u75, u76, u77, u78, u79, u80, u81, u82, u83, u84, u85, u86, u87, u88, u89, u90, u91, u92, u93, u94, u95, u96, u97, u98, u99, u100, u101, u102, u103, u104, u105, u106, u107, u108, u109, u110, u111, u112, u113, u114, u115, u116, u117, u118, u119, u120, u121, u122, u123, u124, u125, u126, u127, u128, u129, u130, u131, u132, u133, u134, u135, u136, u137, u138, u139, u140, u141, u142, u143, u144, u145, u146, u147, u148, u149, u150, u151, u152, u153, u154, u155, u156, u157, u158, u159, u160, u161, u162, u163, u164, u165, u166, u167, u168, u169, u170, u171, u172, u173, u174, u175, u176, u177, u178, u179, u180, u181, u182, u183, u184, u185, u186, u187], defers := [] } wc := by
  conv =>
    arg 2
    dsimp only [Tryz.f10, Option.getD, sR, sL, cT, bk, lp]
  conv =>
    arg 4
    dsimp only
  dsimp only at hQ
  rw [← then_self Q]
  obtain ⟨K, hKe⟩ : ∃ K, K = Q .normal := ⟨_, rfl⟩
  rw [← hKe] at hQ ⊢
  have HQ := Hid.mk hQ
  have HP := Hid.mk hP
  clear hQ hKe hP
  by_cases hc : (x' : Int) ≠ y' ∧ x' < n
  · have ne1 : (x' : Int) ≠ y' := hc.1
    have lt1 : (x' : Int) < (n : Int) := by have := hc.2; omega
    have HCC := Hid.mk hc
    clear hc
    obtain ⟨t, ht⟩ : ∃ x, x = (dBelow bs q1 40).1 := ⟨_, rfl⟩
    obtain ⟨q2, hq2⟩ : ∃ x, x = (dBelow bs q1 40).2 := ⟨_, rfl⟩
    have HT : Hid (dBelow bs q1 40 = (t, q2)) := Prod.ext ht.symm hq2.symm
    have K40 : Hid (∀ w, DC B g w bs q1 → Calls Tryz.prog 26 #[.pointer (some ⟨g, 0, none⟩), .int .i64 40] w fun e w' => e = .returned (.int .i64 (t : Int)) ∧ DC B g w' bs q2 ∧ w.grownBy w' (some g)) := fun w hd => by rw [ht, hq2]; exact belowD B g bs q1 40 w hB hd hl (by omega) (by omega)
    clear ht hq2
    obtain ⟨az, cz, hzz, -⟩ := row_shape J4.out.acc.r
    simp only at hzz
    obtain ⟨nz, hnz⟩ : ∃ x, x = R.length := ⟨_, rfl⟩
    rw [← hnz] at hzz hR
    have HNZ := Hid.mk hnz
    subst hzz
    clear hnz
    obtain ⟨i0, hi, hz0, hz1, hz2⟩ := info_parts info3
    go_upto_region 42 with fail
    have JD := Hid.mk (J4.out.below (Nat.le_trans hBs J4.out.gb.size) (Below.refl _ _).drew)
    clear J4
    refine wp_region_held_drew (S := (fun _ => True)) (by kernel_rfl) ?_ (fun hHeld => ?_)
    · trivial
    refine wpAnyH_take (i := 0) (v := ?_) rfl (by kernel_rfl) (by kernel_rfl) (by kernel_rfl) (fun _ _ _ h => HP.out _ _ _ _ (put_defers _ _ _) h) (Or.inl ⟨by rfl, ?_⟩) (by assumption) ?_
    rotate_left
    · intro w hSw; (try dsimp only at hSw); go_simp; (try with_reducible rfl)
    rotate_left
    simp only [Act.put, List.setIfInBounds_toArray, List.set_cons_zero, List.set_cons_succ, List.getElem_toArray, List.getElem_cons_zero, List.getElem_cons_succ]
    refine wpAnyH_take (i := 2) (v := ?_) rfl (by kernel_rfl) (by kernel_rfl) (by kernel_rfl) (fun _ _ _ h => HP.out _ _ _ _ (put_defers _ _ _) h) (Or.inl ⟨by rfl, ?_⟩) (by assumption) ?_
    rotate_left
    · intro w hSw; (try dsimp only at hSw); go_simp; (try with_reducible rfl)
    rotate_left
    simp only [Act.put, List.setIfInBounds_toArray, List.set_cons_zero, List.set_cons_succ, List.getElem_toArray, List.getElem_cons_zero, List.getElem_cons_succ]
    refine wpAnyH_take (i := 3) (v := ?_) rfl (by kernel_rfl) (by kernel_rfl) (by kernel_rfl) (fun _ _ _ h => HP.out _ _ _ _ (put_defers _ _ _) h) (Or.inl ⟨by rfl, ?_⟩) (by assumption) ?_
    rotate_left
    · intro w hSw; (try dsimp only at hSw); go_simp; (try with_reducible rfl)
    rotate_left
    simp only [Act.put, List.setIfInBounds_toArray, List.set_cons_zero, List.set_cons_succ, List.getElem_toArray, List.getElem_cons_zero, List.getElem_cons_succ]
    refine wpAnyH_take (i := 4) (v := ?_) rfl (by kernel_rfl) (by kernel_rfl) (by kernel_rfl) (fun _ _ _ h => HP.out _ _ _ _ (put_defers _ _ _) h) (Or.inl ⟨by rfl, ?_⟩) (by assumption) ?_
    rotate_left
    · intro w hSw; (try dsimp only at hSw); go_simp; (try with_reducible rfl)
    rotate_left
    simp only [Act.put, List.setIfInBounds_toArray, List.set_cons_zero, List.set_cons_succ, List.getElem_toArray, List.getElem_cons_zero, List.getElem_cons_succ]
    refine wpAnyH_ready (rs := [1, 5]) (by kernel_rfl) (by simp) ?_
    refine AllReadyH.cons rfl (fun K hK => ?_) ?_
    · have y0 := (blk_cell JD.out.x 2).trans (show _ = some (.slice az nz cz) from rfl)
      have y1 := (blk_cell (blk_alloc JD.out.x (.cells #[.int .i64 (x' : Int), .int .i64 y', .int .i64 (t : Int)] 51)) 2).trans (show _ = some (.slice az nz cz) from rfl)
      go_simp
      clear y0 y1
      refine hK.out _ _ ?_ (fun hHeld => ?_)
      · trivial
      clear hK K
      (try simp only [Act.put, List.setIfInBounds_toArray, List.set_cons_zero, List.set_cons_succ, List.getElem_toArray, List.getElem_cons_zero, List.getElem_cons_succ])
      refine wpAnyH_ready (rs := [5]) (by kernel_rfl) (by simp) ?_
      refine AllReadyH.cons rfl (fun K hK => ?_) ?_
      · go_simp
        refine (K40.out _ JD.out.d).mono ?_
        rintro e w25 ⟨rfl, d, gg⟩
        have JD := Hid.mk (JD.out.call d gg hI1 hI2)
        clear d gg
        have HRow : Hid (w25.ownsRow w.heap.size 51 3 (.slice az nz cz) nz (R.flatMap Rd.cells)) := by unfold Hid; have := JD.out.acc.r; simp only at this; rw [← HNZ.out] at this; exact this
        have hsz : w.heap.size ≤ w25.heap.size := JD.out.gb.size
        refine hK.out _ _ ?_ (fun hHeld => ?_)
        · trivial
        clear hK K
        (try simp only [Act.put, List.setIfInBounds_toArray, List.set_cons_zero, List.set_cons_succ, List.getElem_toArray, List.getElem_cons_zero, List.getElem_cons_succ])
        refine wpAnyH_take (i := 6) (v := ?_) rfl (by kernel_rfl) (by kernel_rfl) (by kernel_rfl) (fun _ _ _ h => HP.out _ _ _ _ (put_defers _ _ _) h) (Or.inl ⟨by rfl, ?_⟩) (by assumption) ?_
        rotate_left
        · intro w hSw; (try dsimp only at hSw); go_simp; (try with_reducible rfl)
        rotate_left
        simp only [Act.put, List.setIfInBounds_toArray, List.set_cons_zero, List.set_cons_succ, List.getElem_toArray, List.getElem_cons_zero, List.getElem_cons_succ]
        refine wpAnyH_ready (rs := [7]) (by kernel_rfl) (by simp) ?_
        refine AllReadyH.cons rfl (fun K hK => ?_) ?_
        · go_simp
          refine hK.out _ _ ?_ (fun hHeld => ?_)
          · trivial
          clear hK K
          (try simp only [Act.put, List.setIfInBounds_toArray, List.set_cons_zero, List.set_cons_succ, List.getElem_toArray, List.getElem_cons_zero, List.getElem_cons_succ])
          refine wpAnyH_ready (rs := [8]) (by kernel_rfl) (by simp) ?_
          refine AllReadyH.cons rfl (fun K hK => ?_) ?_
          · rw [if_pos (by rfl)]
            refine wp_append_own _ _ _ 25 rfl w.heap.size 51 i0 (.agg #[.int .i64 0, .int .i64 0, .int .i64 0]) 3 24 Tryz.underlying25 hi hz0 hz1 hz2 rfl (by decide) _ _ _ rfl (HRow.out.alloc _) ⟨w25.heap.size, 0, none⟩ 1 1 [.int .i64 (x' : Int), .int .i64 y', .int .i64 (t : Int)] rfl rfl (news_at w25 [.int .i64 (x' : Int), .int .i64 y', .int .i64 (t : Int)] 51) (by intro u hu; simp only [List.mem_cons, List.not_mem_nil, or_false] at hu; rcases hu with rfl | rfl | rfl <;> rfl) (by unfold maxLen; omega) (by omega) (by simp; omega) ?_
            intro vn w7 hown hgrow _
            obtain ⟨an, cn, hvn, -⟩ := row_shape hown
            subst hvn
            have J9 := Hid.mk (JD.out.appR (v := ⟨(x' : Int), y', (t : Int)⟩) HNZ.out hown hgrow hBs (Nat.le_succ _) hI1 (Nat.ne_of_lt (Nat.lt_succ_self _)))
            have hx := grown_other hgrow (HRow.out.alloc _) (blk_alloc JD.out.x _) (by decide)
            have C10 : Hid (w7.cell? ⟨w.heap.size + 1, 2, none⟩ = some (.slice az nz cz) ∧ w7.frozen? ⟨w.heap.size + 1, 2, none⟩ = false) := ⟨(blk_cell hx 2).trans rfl, blk_unfrozen hx 2⟩
            clear hown hgrow hx HRow JD
            refine hK.out _ _ ?_ (fun hHeld => ?_)
            · trivial
            clear hK K
            (try simp only [Act.put, List.setIfInBounds_toArray, List.set_cons_zero, List.set_cons_succ, List.getElem_toArray, List.getElem_cons_zero, List.getElem_cons_succ])
            refine wpAnyH_take (i := 9) (v := ?_) rfl (by kernel_rfl) (by kernel_rfl) (by kernel_rfl) (fun _ _ _ h => HP.out _ _ _ _ (put_defers _ _ _) h) (Or.inl ⟨by rfl, ?_⟩) (by assumption) ?_
            rotate_left
            · intro w hSw; (try dsimp only at hSw); go_simp; (try with_reducible rfl)
            rotate_left
            simp only [Act.put, List.setIfInBounds_toArray, List.set_cons_zero, List.set_cons_succ, List.getElem_toArray, List.getElem_cons_zero, List.getElem_cons_succ]
            refine wpAnyH_ready (rs := [10]) (by kernel_rfl) (by simp) ?_
            refine AllReadyH.cons rfl (fun K hK => ?_) ?_
            · obtain ⟨xs0, zs0⟩ := C10.out
              go_simp
              refine hK.out _ _ ?_ (fun hHeld => ?_)
              · trivial
              clear hK K
              (try simp only [Act.put, List.setIfInBounds_toArray, List.set_cons_zero, List.set_cons_succ, List.getElem_toArray, List.getElem_cons_zero, List.getElem_cons_succ])
              refine wpAnyH_done (by kernel_rfl) ?_ _
              go_wp2_with fail
              exact HQ.out _ _ _ _ _ _ _ _ _ _ _ _ _ _ _ _ _ _ _ (R ++ [⟨(x' : Int), y', (t : Int)⟩]) (.slice an (nz + 1) cn) q2 (by unfold Hid; rw [if_pos HCC.out, HT.out]) J9
            exact AllReadyH.nil
          exact AllReadyH.nil
        exact AllReadyH.nil
      exact AllReadyH.nil
    refine AllReadyH.cons rfl (fun K hK => ?_) ?_
    · go_simp
      refine (K40.out _ JD.out.d).mono ?_
      rintro e w25 ⟨rfl, d, gg⟩
      have JD := Hid.mk (JD.out.call d gg hI1 hI2)
      clear d gg
      have HRow : Hid (w25.ownsRow w.heap.size 51 3 (.slice az nz cz) nz (R.flatMap Rd.cells)) := by unfold Hid; have := JD.out.acc.r; simp only at this; rw [← HNZ.out] at this; exact this
      have hsz : w.heap.size ≤ w25.heap.size := JD.out.gb.size
      refine hK.out _ _ ?_ (fun hHeld => ?_)
      · trivial
      clear hK K
      (try simp only [Act.put, List.setIfInBounds_toArray, List.set_cons_zero, List.set_cons_succ, List.getElem_toArray, List.getElem_cons_zero, List.getElem_cons_succ])
      refine wpAnyH_take (i := 6) (v := ?_) rfl (by kernel_rfl) (by kernel_rfl) (by kernel_rfl) (fun _ _ _ h => HP.out _ _ _ _ (put_defers _ _ _) h) (Or.inl ⟨by rfl, ?_⟩) (by assumption) ?_
      rotate_left
      · intro w hSw; (try dsimp only at hSw); go_simp; (try with_reducible rfl)
      rotate_left
      simp only [Act.put, List.setIfInBounds_toArray, List.set_cons_zero, List.set_cons_succ, List.getElem_toArray, List.getElem_cons_zero, List.getElem_cons_succ]
      refine wpAnyH_ready (rs := [1, 7]) (by kernel_rfl) (by simp) ?_
      refine AllReadyH.cons rfl (fun K hK => ?_) ?_
      · have y0 := (blk_cell JD.out.x 2).trans (show _ = some (.slice az nz cz) from rfl)
        have y1 := (blk_cell (blk_alloc JD.out.x (.cells #[.int .i64 (x' : Int), .int .i64 y', .int .i64 (t : Int)] 51)) 2).trans (show _ = some (.slice az nz cz) from rfl)
        go_simp
        clear y0 y1
        refine hK.out _ _ ?_ (fun hHeld => ?_)
        · trivial
        clear hK K
        (try simp only [Act.put, List.setIfInBounds_toArray, List.set_cons_zero, List.set_cons_succ, List.getElem_toArray, List.getElem_cons_zero, List.getElem_cons_succ])
        refine wpAnyH_ready (rs := [7]) (by kernel_rfl) (by simp) ?_
        refine AllReadyH.cons rfl (fun K hK => ?_) ?_
        · go_simp
          refine hK.out _ _ ?_ (fun hHeld => ?_)
          · trivial
          clear hK K
          (try simp only [Act.put, List.setIfInBounds_toArray, List.set_cons_zero, List.set_cons_succ, List.getElem_toArray, List.getElem_cons_zero, List.getElem_cons_succ])
          refine wpAnyH_ready (rs := [8]) (by kernel_rfl) (by simp) ?_
          refine AllReadyH.cons rfl (fun K hK => ?_) ?_
          · rw [if_pos (by rfl)]
            refine wp_append_own _ _ _ 25 rfl w.heap.size 51 i0 (.agg #[.int .i64 0, .int .i64 0, .int .i64 0]) 3 24 Tryz.underlying25 hi hz0 hz1 hz2 rfl (by decide) _ _ _ rfl (HRow.out.alloc _) ⟨w25.heap.size, 0, none⟩ 1 1 [.int .i64 (x' : Int), .int .i64 y', .int .i64 (t : Int)] rfl rfl (news_at w25 [.int .i64 (x' : Int), .int .i64 y', .int .i64 (t : Int)] 51) (by intro u hu; simp only [List.mem_cons, List.not_mem_nil, or_false] at hu; rcases hu with rfl | rfl | rfl <;> rfl) (by unfold maxLen; omega) (by omega) (by simp; omega) ?_
            intro vn w7 hown hgrow _
            obtain ⟨an, cn, hvn, -⟩ := row_shape hown
            subst hvn
            have J9 := Hid.mk (JD.out.appR (v := ⟨(x' : Int), y', (t : Int)⟩) HNZ.out hown hgrow hBs (Nat.le_succ _) hI1 (Nat.ne_of_lt (Nat.lt_succ_self _)))
            have hx := grown_other hgrow (HRow.out.alloc _) (blk_alloc JD.out.x _) (by decide)
            have C10 : Hid (w7.cell? ⟨w.heap.size + 1, 2, none⟩ = some (.slice az nz cz) ∧ w7.frozen? ⟨w.heap.size + 1, 2, none⟩ = false) := ⟨(blk_cell hx 2).trans rfl, blk_unfrozen hx 2⟩
            clear hown hgrow hx HRow JD
            refine hK.out _ _ ?_ (fun hHeld => ?_)
            · trivial
            clear hK K
            (try simp only [Act.put, List.setIfInBounds_toArray, List.set_cons_zero, List.set_cons_succ, List.getElem_toArray, List.getElem_cons_zero, List.getElem_cons_succ])
            refine wpAnyH_take (i := 9) (v := ?_) rfl (by kernel_rfl) (by kernel_rfl) (by kernel_rfl) (fun _ _ _ h => HP.out _ _ _ _ (put_defers _ _ _) h) (Or.inl ⟨by rfl, ?_⟩) (by assumption) ?_
            rotate_left
            · intro w hSw; (try dsimp only at hSw); go_simp; (try with_reducible rfl)
            rotate_left
            simp only [Act.put, List.setIfInBounds_toArray, List.set_cons_zero, List.set_cons_succ, List.getElem_toArray, List.getElem_cons_zero, List.getElem_cons_succ]
            refine wpAnyH_ready (rs := [10]) (by kernel_rfl) (by simp) ?_
            refine AllReadyH.cons rfl (fun K hK => ?_) ?_
            · obtain ⟨xs0, zs0⟩ := C10.out
              go_simp
              refine hK.out _ _ ?_ (fun hHeld => ?_)
              · trivial
              clear hK K
              (try simp only [Act.put, List.setIfInBounds_toArray, List.set_cons_zero, List.set_cons_succ, List.getElem_toArray, List.getElem_cons_zero, List.getElem_cons_succ])
              refine wpAnyH_done (by kernel_rfl) ?_ _
              go_wp2_with fail
              exact HQ.out _ _ _ _ _ _ _ _ _ _ _ _ _ _ _ _ _ _ _ (R ++ [⟨(x' : Int), y', (t : Int)⟩]) (.slice an (nz + 1) cn) q2 (by unfold Hid; rw [if_pos HCC.out, HT.out]) J9
            exact AllReadyH.nil
          exact AllReadyH.nil
        exact AllReadyH.nil
      refine AllReadyH.cons rfl (fun K hK => ?_) ?_
      · go_simp
        refine hK.out _ _ ?_ (fun hHeld => ?_)
        · trivial
        clear hK K
        (try simp only [Act.put, List.setIfInBounds_toArray, List.set_cons_zero, List.set_cons_succ, List.getElem_toArray, List.getElem_cons_zero, List.getElem_cons_succ])
        refine wpAnyH_ready (rs := [1]) (by kernel_rfl) (by simp) ?_
        refine AllReadyH.cons rfl (fun K hK => ?_) ?_
        · have y0 := (blk_cell JD.out.x 2).trans (show _ = some (.slice az nz cz) from rfl)
          have y1 := (blk_cell (blk_alloc JD.out.x (.cells #[.int .i64 (x' : Int), .int .i64 y', .int .i64 (t : Int)] 51)) 2).trans (show _ = some (.slice az nz cz) from rfl)
          go_simp
          clear y0 y1
          refine hK.out _ _ ?_ (fun hHeld => ?_)
          · trivial
          clear hK K
          (try simp only [Act.put, List.setIfInBounds_toArray, List.set_cons_zero, List.set_cons_succ, List.getElem_toArray, List.getElem_cons_zero, List.getElem_cons_succ])
          refine wpAnyH_ready (rs := [8]) (by kernel_rfl) (by simp) ?_
          refine AllReadyH.cons rfl (fun K hK => ?_) ?_
          · rw [if_pos (by rfl)]
            refine wp_append_own _ _ _ 25 rfl w.heap.size 51 i0 (.agg #[.int .i64 0, .int .i64 0, .int .i64 0]) 3 24 Tryz.underlying25 hi hz0 hz1 hz2 rfl (by decide) _ _ _ rfl (HRow.out.alloc _) ⟨w25.heap.size, 0, none⟩ 1 1 [.int .i64 (x' : Int), .int .i64 y', .int .i64 (t : Int)] rfl rfl (news_at w25 [.int .i64 (x' : Int), .int .i64 y', .int .i64 (t : Int)] 51) (by intro u hu; simp only [List.mem_cons, List.not_mem_nil, or_false] at hu; rcases hu with rfl | rfl | rfl <;> rfl) (by unfold maxLen; omega) (by omega) (by simp; omega) ?_
            intro vn w7 hown hgrow _
            obtain ⟨an, cn, hvn, -⟩ := row_shape hown
            subst hvn
            have J9 := Hid.mk (JD.out.appR (v := ⟨(x' : Int), y', (t : Int)⟩) HNZ.out hown hgrow hBs (Nat.le_succ _) hI1 (Nat.ne_of_lt (Nat.lt_succ_self _)))
            have hx := grown_other hgrow (HRow.out.alloc _) (blk_alloc JD.out.x _) (by decide)
            have C10 : Hid (w7.cell? ⟨w.heap.size + 1, 2, none⟩ = some (.slice az nz cz) ∧ w7.frozen? ⟨w.heap.size + 1, 2, none⟩ = false) := ⟨(blk_cell hx 2).trans rfl, blk_unfrozen hx 2⟩
            clear hown hgrow hx HRow JD
            refine hK.out _ _ ?_ (fun hHeld => ?_)
            · trivial
            clear hK K
            (try simp only [Act.put, List.setIfInBounds_toArray, List.set_cons_zero, List.set_cons_succ, List.getElem_toArray, List.getElem_cons_zero, List.getElem_cons_succ])
            refine wpAnyH_take (i := 9) (v := ?_) rfl (by kernel_rfl) (by kernel_rfl) (by kernel_rfl) (fun _ _ _ h => HP.out _ _ _ _ (put_defers _ _ _) h) (Or.inl ⟨by rfl, ?_⟩) (by assumption) ?_
            rotate_left
            · intro w hSw; (try dsimp only at hSw); go_simp; (try with_reducible rfl)
            rotate_left
            simp only [Act.put, List.setIfInBounds_toArray, List.set_cons_zero, List.set_cons_succ, List.getElem_toArray, List.getElem_cons_zero, List.getElem_cons_succ]
            refine wpAnyH_ready (rs := [10]) (by kernel_rfl) (by simp) ?_
            refine AllReadyH.cons rfl (fun K hK => ?_) ?_
            · obtain ⟨xs0, zs0⟩ := C10.out
              go_simp
              refine hK.out _ _ ?_ (fun hHeld => ?_)
              · trivial
              clear hK K
              (try simp only [Act.put, List.setIfInBounds_toArray, List.set_cons_zero, List.set_cons_succ, List.getElem_toArray, List.getElem_cons_zero, List.getElem_cons_succ])
              refine wpAnyH_done (by kernel_rfl) ?_ _
              go_wp2_with fail
              exact HQ.out _ _ _ _ _ _ _ _ _ _ _ _ _ _ _ _ _ _ _ (R ++ [⟨(x' : Int), y', (t : Int)⟩]) (.slice an (nz + 1) cn) q2 (by unfold Hid; rw [if_pos HCC.out, HT.out]) J9
            exact AllReadyH.nil
          exact AllReadyH.nil
        exact AllReadyH.nil
      exact AllReadyH.nil
    exact AllReadyH.nil
  · have HC := Hid.mk hc
    by_cases he : (x' : Int) = y'
    · have ne1 : ((x' : Int) != y') = false := by simpa using he
      clear he hc
      go_wp2_with fail
      exact HQ.out _ _ _ _ _ _ _ _ _ _ _ _ _ _ _ _ _ _ _ R z q1 (by unfold Hid; rw [if_neg HC.out]) J4
    · have ne1 : (x' : Int) ≠ y' := he
      have lt2 : ¬ x' < n := fun h => HC.out ⟨he, h⟩
      have lt3 : decide (x' < n) = false := by simpa using lt2
      have lt1 : decide ((x' : Int) < (n : Int)) = false := by have := HC.out; simp only [decide_eq_false_iff_not]; omega
      clear he hc
      go_wp2_with fail
      all_goals exact HQ.out _ _ _ _ _ _ _ _ _ _ _ _ _ _ _ _ _ _ _ R z q1 (by unfold Hid; rw [if_neg HC.out]) J4
end Go.Proofs.YtefkdpppcjlflaaGreatDoor.Draw
