import Derived.Test.YtgooegcmgejfpaaGreatDoorGr02
import Derived.Test.YtgooegcmgejfpaaGreatDoorGr04
import Derived.Test.YtgooegcmgejfpaaGreatDoorGr05
import Derived.Test.YtgooegcmgejfpaaGreatDoorGr06
import Derived.Test.YtgooegcmgejfpaaGreatDoorGr07
import Derived.Test.YtgooegcmgejfpaaGreatDoorGr47
import Derived.Test.YtgooegcmgejfpaaGreatDoorGr40
import Derived.Deep.DrawnRows
import Derived.Deep.CutRange
import Derived.Deep.Cut
import Derived.Deep.DeepCutAuto
namespace Go.Proofs.YtgooegcmgejfpaaGreatDoor.LawRun
open Go Go.RowKit Go.Sort Go.Proofs.YtgooegcmgejfpaaGreatDoor.Mem
set_option linter.unusedVariables false
set_option linter.unusedSimpArgs false
attribute [local go_sem ↓] Go.wp_at_zero Go.wp_at_succ

theorem toRoute (s : Option Addr) (n t : Nat) (L : Nat → Int) (w : World) (hs : NumsAt w s n L) (hn : n ≤ 1048576) :
    Calls Tryz.prog 28 #[.slice s n t] w fun e w' => ∃ g, e = .returned (.slice (some ⟨g, 0, none⟩) n n) ∧ NumsAt w' (some ⟨g, 0, none⟩) n L ∧ Below w.heap.size w w' :=
  (Copy.toInt64S s n t L w hs hn).mono fun e w' h => ⟨w.heap.size, h.1, Or.inr ⟨_, 0, rfl, h.2.2.2.1⟩, h.2.1⟩
set_option maxHeartbeats 1600000 in
set_option maxRecDepth 100000 in
theorem eqVerdict (a b c : Int) (w : World) : Calls Tryz.prog 26 #[.agg #[.int .i64 a, .int .i64 b, .int .i64 c], .agg #[.int .i64 a, .int .i64 b, .int .i64 c]] w fun e w' => e = .returned (.bool true) ∧ Below w.heap.size w w' := by
  go_enter Tryz.func26, Tryz.ntmps26
  go_wp2
  go_ret
  exact ⟨rfl, by go_grown⟩
set_option maxHeartbeats 16000000 in
set_option maxRecDepth 100000 in
theorem law (a1 a2 a3 b1 b2 b3 s : Option Addr) (c1 c2 c3 d1 d2 d3 n t : Nat) (C : Co) (I : In) (v : Int) (L : Nat → Int) (w : World) (hC : CoAt w a1 a2 a3 C) (hI : InAt w b1 b2 b3 I) (hL : NumsAt w s n L) (h1 : C.n1 ≤ 9223372036854775807) (h2 : C.n2 ≤ 9223372036854775807) (h3 : C.n3 ≤ 9223372036854775807) (h4 : I.nV ≤ 9223372036854775807) (h5 : I.nQ ≤ 9223372036854775807) (h6 : I.nR ≤ 9223372036854775807) (h7 : n ≤ 9223372036854775807) (hT : ValC.TabC w) :
    Calls Tryz.prog 6 #[.agg #[.int .i64 C.R, .int .i64 C.S, .slice a1 C.n1 c1, .slice a2 C.n2 c2, .slice a3 C.n3 c3], .agg #[.slice b1 I.nV d1, .slice b2 I.nQ d2, .slice b3 I.nR d3], .int .i64 v, .slice s n t] w fun e w' => e = .returned (.bool true) ∧ Below w.heap.size w w' := by
  have HC := Hid.mk hC
  have HI := Hid.mk hI
  have HL := Hid.mk hL
  have HT := Hid.mk hT
  clear hC hI hL hT
  obtain ⟨rv, hrv⟩ : ∃ rv, rv = Mac.routeV C I v n L := ⟨_, rfl⟩
  have HRV := Hid.mk hrv
  clear hrv
  by_cases hgt : 1048576 < n
  · have hd : decide ((1048576 : Int) < (n : Int)) = true := by simp; omega
    clear hgt
    go_enter Tryz.func6, Tryz.ntmps6
    go_wp2
    go_ret
    exact ⟨rfl, by go_grown⟩
  have hd : decide ((1048576 : Int) < (n : Int)) = false := by simp; omega
  have hn : n ≤ 1048576 := by omega
  clear hgt
  go_enter Tryz.func6, Tryz.ntmps6
  go_wp2_with fail
  refine (Eq.szCodeG a1 a2 a3 c1 c2 c3 C.n1 C.n2 C.n3 C.R C.S 1048576 _ h1 h2 h3 (by omega) (by omega)).mono ?_
  rintro e v0 ⟨r0, rfl, hb, hr⟩
  have HB_0 := Hid.mk (below_then (w := w) (by go_grown) hb)
  have A0_0 := Hid.mk (blk_below (blk_alloc (blk_new w _) _) hb)
  have A1_0 := Hid.mk (blk_below (blk_new1 w _ _) hb)
  clear hb hd
  rcases hr with hr | ⟨ra0, rb0, m1, m2, m3⟩
  · go_wp2
    go_ret
    exact ⟨rfl, HB_0.out⟩
  have x0 := blk_cell A1_0.out 0
  have x1 := blk_cell A1_0.out 1
  have x2 := blk_cell A1_0.out 2
  simp only [List.getElem?_toArray, List.getElem?_cons_zero, List.getElem?_cons_succ] at x0 x1 x2
  go_wp2_with fail
  clear x0 x1 x2
  refine (Eq.szInstG b1 b2 b3 d1 d2 d3 I.nV I.nQ I.nR r0 _ h4 h5 h6 ra0 rb0).mono ?_
  rintro e v1 ⟨r1, rfl, hb, hr⟩
  have HB_1 := Hid.mk (below_then HB_0.out hb)
  have A0_1 := Hid.mk (blk_below A0_0.out hb)
  have A1_1 := Hid.mk (blk_below A1_0.out hb)
  clear hb HB_0 A0_0 A1_0
  rcases hr with hr | ⟨ra1, rb1, m4, m5, m6⟩
  · go_wp2
    go_ret
    exact ⟨rfl, HB_1.out⟩
  have HB := HB_1
  have A0 := A0_1
  have A1 := A1_1
  clear HB_1 A0_1 A1_1
  go_upto_region 10 with fail
  have HSS := Hid.mk (show v1.cell? ⟨w.heap.size, 0, none⟩ = some (.int .i64 C.R) ∧ v1.cell? ⟨w.heap.size, 1, none⟩ = some (.int .i64 C.S) ∧ v1.cell? ⟨w.heap.size, 2, none⟩ = some (.slice a1 C.n1 c1) ∧ v1.cell? ⟨w.heap.size, 3, none⟩ = some (.slice a2 C.n2 c2) ∧ v1.cell? ⟨w.heap.size, 4, none⟩ = some (.slice a3 C.n3 c3) ∧ v1.cell? ⟨w.heap.size + 1, 0, none⟩ = some (.slice b1 I.nV d1) ∧ v1.cell? ⟨w.heap.size + 1, 1, none⟩ = some (.slice b2 I.nQ d2) ∧ v1.cell? ⟨w.heap.size + 1, 2, none⟩ = some (.slice b3 I.nR d3) from ⟨(blk_cell A0.out 0).trans rfl, (blk_cell A0.out 1).trans rfl, (blk_cell A0.out 2).trans rfl, (blk_cell A0.out 3).trans rfl, (blk_cell A0.out 4).trans rfl, (blk_cell A1.out 0).trans rfl, (blk_cell A1.out 1).trans rfl, (blk_cell A1.out 2).trans rfl⟩)
  have hwb := Hid.mk (blk_lt A1.out)
  go_cut [10] (fun m wx => ∃ V : Nat, m = .pointer (some ⟨V, 0, none⟩) ∧ Hid (Below v1.heap.size v1 wx) ∧ Hid (wx.heap[V]? = some (.cells #[.int .i64 rv.1, .int .i64 rv.2.1, .int .i64 rv.2.2] 59)))
  case first =>
    have HR := Hid.mk ((Below.refl v1.heap.size v1).drew)
    refine wp_region_held_drew (S := (fun w' => w'.cell? ⟨w.heap.size, 0, none⟩ = some (.int .i64 C.R) ∧ w'.cell? ⟨w.heap.size, 1, none⟩ = some (.int .i64 C.S) ∧ w'.cell? ⟨w.heap.size, 2, none⟩ = some (.slice a1 C.n1 c1) ∧ w'.cell? ⟨w.heap.size, 3, none⟩ = some (.slice a2 C.n2 c2) ∧ w'.cell? ⟨w.heap.size, 4, none⟩ = some (.slice a3 C.n3 c3) ∧ w'.cell? ⟨w.heap.size + 1, 0, none⟩ = some (.slice b1 I.nV d1) ∧ w'.cell? ⟨w.heap.size + 1, 1, none⟩ = some (.slice b2 I.nQ d2) ∧ w'.cell? ⟨w.heap.size + 1, 2, none⟩ = some (.slice b3 I.nR d3))) (by kernel_rfl) ?_ (fun hHeld => ?_)
    · exact HSS.out
    refine wpAnyH_take (i := 0) (v := ?_) rfl (by kernel_rfl) (by kernel_rfl) (by kernel_rfl) (fun _ _ _ h => h) (Or.inl ⟨by rfl, ?_⟩) (by assumption) ?_
    rotate_left
    · intro w hSw; (try dsimp only at hSw); go_simp; (try with_reducible rfl)
    rotate_left
    simp only [Act.put, List.setIfInBounds_toArray, List.set_cons_zero, List.set_cons_succ, List.getElem_toArray, List.getElem_cons_zero, List.getElem_cons_succ]
    refine wpAnyH_take (i := 2) (v := ?_) rfl (by kernel_rfl) (by kernel_rfl) (by kernel_rfl) (fun _ _ _ h => h) (Or.inl ⟨by rfl, ?_⟩) (by assumption) ?_
    rotate_left
    · intro w hSw; (try dsimp only at hSw); go_simp; (try with_reducible rfl)
    rotate_left
    simp only [Act.put, List.setIfInBounds_toArray, List.set_cons_zero, List.set_cons_succ, List.getElem_toArray, List.getElem_cons_zero, List.getElem_cons_succ]
    refine wpAnyH_take (i := 4) (v := ?_) rfl (by kernel_rfl) (by kernel_rfl) (by kernel_rfl) (fun _ _ _ h => h) (Or.inl ⟨by rfl, ?_⟩) (by assumption) ?_
    rotate_left
    · intro w hSw; (try dsimp only at hSw); go_simp; (try with_reducible rfl)
    rotate_left
    simp only [Act.put, List.setIfInBounds_toArray, List.set_cons_zero, List.set_cons_succ, List.getElem_toArray, List.getElem_cons_zero, List.getElem_cons_succ]
    refine wpAnyH_take (i := 5) (v := ?_) rfl (by kernel_rfl) (by kernel_rfl) (by kernel_rfl) (fun _ _ _ h => h) (Or.inl ⟨by rfl, ?_⟩) (by assumption) ?_
    rotate_left
    · intro w hSw; (try dsimp only at hSw); go_simp; (try with_reducible rfl)
    rotate_left
    simp only [Act.put, List.setIfInBounds_toArray, List.set_cons_zero, List.set_cons_succ, List.getElem_toArray, List.getElem_cons_zero, List.getElem_cons_succ]
    refine wpAnyH_ready (rs := [1, 8]) (by kernel_rfl) (by simp) ?_
    refine AllReadyH.cons rfl (fun K hK => ?_) ?_
    · go_simp
      refine (Copy.toCode a1 a2 a3 c1 c2 c3 C _ (HC.out.below (below_then HB.out HR.out)) m1 m2 m3).mono ?_
      rintro e wk1 ⟨p1, p2, p3, rfl, hb, hcp, -⟩
      have HR := Hid.mk (below_then HR.out hb)
      (try have KC := Hid.mk (KC.out.below hb))
      (try have KI := Hid.mk (KI.out.below hb))
      (try have KL := Hid.mk (KL.out.below hb))
      (try have AV := Hid.mk (blk_below AV.out hb))
      have KC := Hid.mk hcp
      refine hK.out _ _ ?_ (fun hHeld => ?_)
      · exact ⟨cell_keep hb hHeld.1, cell_keep hb hHeld.2.1, cell_keep hb hHeld.2.2.1, cell_keep hb hHeld.2.2.2.1, cell_keep hb hHeld.2.2.2.2.1, cell_keep hb hHeld.2.2.2.2.2.1, cell_keep hb hHeld.2.2.2.2.2.2.1, cell_keep hb hHeld.2.2.2.2.2.2.2⟩
      clear hK K
      (try simp only [Act.put, List.setIfInBounds_toArray, List.set_cons_zero, List.set_cons_succ, List.getElem_toArray, List.getElem_cons_zero, List.getElem_cons_succ])
      refine wpAnyH_ready (rs := [3, 8]) (by kernel_rfl) (by simp) ?_
      refine AllReadyH.cons rfl (fun K hK => ?_) ?_
      · go_simp
        refine (Copy.toInst b1 b2 b3 d1 d2 d3 I _ (HI.out.below (below_then HB.out HR.out)) m4 m5 m6).mono ?_
        rintro e wk3 ⟨p1, p2, p3, rfl, hb, hcp, -⟩
        have HR := Hid.mk (below_then HR.out hb)
        (try have KC := Hid.mk (KC.out.below hb))
        (try have KI := Hid.mk (KI.out.below hb))
        (try have KL := Hid.mk (KL.out.below hb))
        (try have AV := Hid.mk (blk_below AV.out hb))
        have KI := Hid.mk hcp
        refine hK.out _ _ ?_ (fun hHeld => ?_)
        · exact ⟨cell_keep hb hHeld.1, cell_keep hb hHeld.2.1, cell_keep hb hHeld.2.2.1, cell_keep hb hHeld.2.2.2.1, cell_keep hb hHeld.2.2.2.2.1, cell_keep hb hHeld.2.2.2.2.2.1, cell_keep hb hHeld.2.2.2.2.2.2.1, cell_keep hb hHeld.2.2.2.2.2.2.2⟩
        clear hK K
        (try simp only [Act.put, List.setIfInBounds_toArray, List.set_cons_zero, List.set_cons_succ, List.getElem_toArray, List.getElem_cons_zero, List.getElem_cons_succ])
        refine wpAnyH_ready (rs := [6, 8]) (by kernel_rfl) (by simp) ?_
        refine AllReadyH.cons rfl (fun K hK => ?_) ?_
        · go_simp
          refine (toRoute s n t L _ (HL.out.below (below_then HB.out HR.out)) hn).mono ?_
          rintro e wk6 ⟨gl, rfl, hcp, hb⟩
          have HR := Hid.mk (below_then HR.out hb)
          (try have KC := Hid.mk (KC.out.below hb))
          (try have KI := Hid.mk (KI.out.below hb))
          (try have KL := Hid.mk (KL.out.below hb))
          (try have AV := Hid.mk (blk_below AV.out hb))
          have KL := Hid.mk hcp
          refine hK.out _ _ ?_ (fun hHeld => ?_)
          · exact ⟨cell_keep hb hHeld.1, cell_keep hb hHeld.2.1, cell_keep hb hHeld.2.2.1, cell_keep hb hHeld.2.2.2.1, cell_keep hb hHeld.2.2.2.2.1, cell_keep hb hHeld.2.2.2.2.2.1, cell_keep hb hHeld.2.2.2.2.2.2.1, cell_keep hb hHeld.2.2.2.2.2.2.2⟩
          clear hK K
          (try simp only [Act.put, List.setIfInBounds_toArray, List.set_cons_zero, List.set_cons_succ, List.getElem_toArray, List.getElem_cons_zero, List.getElem_cons_succ])
          refine wpAnyH_ready (rs := [7, 8]) (by kernel_rfl) (by simp) ?_
          refine AllReadyH.cons rfl (fun K hK => ?_) ?_
          · go_simp
            refine (Mac.routeTopS _ _ _ _ _ _ _ _ _ _ _ _ C I v _ n n L _ KC.out KI.out KL.out m1 m2 m3 m4 m5 m6 hn (Nat.le_refl _)).mono ?_
            rw [← HRV.out]
            rintro e wk7 ⟨rfl, hb⟩
            have HR := Hid.mk (below_then HR.out hb)
            (try have KC := Hid.mk (KC.out.below hb))
            (try have KI := Hid.mk (KI.out.below hb))
            (try have KL := Hid.mk (KL.out.below hb))
            (try have AV := Hid.mk (blk_below AV.out hb))
            refine hK.out _ _ ?_ (fun hHeld => ?_)
            · exact ⟨cell_keep hb hHeld.1, cell_keep hb hHeld.2.1, cell_keep hb hHeld.2.2.1, cell_keep hb hHeld.2.2.2.1, cell_keep hb hHeld.2.2.2.2.1, cell_keep hb hHeld.2.2.2.2.2.1, cell_keep hb hHeld.2.2.2.2.2.2.1, cell_keep hb hHeld.2.2.2.2.2.2.2⟩
            clear hK K
            (try simp only [Act.put, List.setIfInBounds_toArray, List.set_cons_zero, List.set_cons_succ, List.getElem_toArray, List.getElem_cons_zero, List.getElem_cons_succ])
            refine wpAnyH_ready (rs := [8]) (by kernel_rfl) (by simp) ?_
            refine AllReadyH.cons rfl (fun K hK => ?_) ?_
            · go_simp
              have AV := Hid.mk (Mac.mblk_of HR.out (.cells #[.int .i64 0, .int .i64 0, .int .i64 0] 59))
              have hV := Hid.mk HR.out.size
              have hV2 := Hid.mk (Nat.lt_of_lt_of_le hwb.out hV.out)
              have HR := Hid.mk (HR.out.alloc HR.out.size (.cells #[.int .i64 0, .int .i64 0, .int .i64 0] 59))
              (try have KC := Hid.mk (KC.out.below ((Below.refl _ _).alloc (Nat.le_refl _) (.cells #[.int .i64 0, .int .i64 0, .int .i64 0] 59))))
              (try have KI := Hid.mk (KI.out.below ((Below.refl _ _).alloc (Nat.le_refl _) (.cells #[.int .i64 0, .int .i64 0, .int .i64 0] 59))))
              (try have KL := Hid.mk (KL.out.below ((Below.refl _ _).alloc (Nat.le_refl _) (.cells #[.int .i64 0, .int .i64 0, .int .i64 0] 59))))
              refine hK.out _ _ ?_ (fun hHeld => ?_)
              · exact ⟨cell_alloc' hHeld.1 _, cell_alloc' hHeld.2.1 _, cell_alloc' hHeld.2.2.1 _, cell_alloc' hHeld.2.2.2.1 _, cell_alloc' hHeld.2.2.2.2.1 _, cell_alloc' hHeld.2.2.2.2.2.1 _, cell_alloc' hHeld.2.2.2.2.2.2.1 _, cell_alloc' hHeld.2.2.2.2.2.2.2 _⟩
              clear hK K
              (try simp only [Act.put, List.setIfInBounds_toArray, List.set_cons_zero, List.set_cons_succ, List.getElem_toArray, List.getElem_cons_zero, List.getElem_cons_succ])
              refine wpAnyH_ready (rs := [9]) (by kernel_rfl) (by simp) ?_
              refine AllReadyH.cons rfl (fun K hK => ?_) ?_
              · rw [if_pos (by rfl)]
                refine wp_store_row _ _ _ rfl _ #[.int .i64 rv.1, .int .i64 rv.2.1, .int .i64 rv.2.2] rfl rfl _ _ AV.out Mac.infoVdI rfl (by simp [Value.oneCell']) ?_
                refine hK.out _ _ ?_ (fun hHeld => ?_)
                · exact ⟨Mac.mcell_srow hHeld.1 (by have h1 := hV2.out; first | omega | (simp only [World.drew] at h1 ⊢; omega)), Mac.mcell_srow hHeld.2.1 (by have h1 := hV2.out; first | omega | (simp only [World.drew] at h1 ⊢; omega)), Mac.mcell_srow hHeld.2.2.1 (by have h1 := hV2.out; first | omega | (simp only [World.drew] at h1 ⊢; omega)), Mac.mcell_srow hHeld.2.2.2.1 (by have h1 := hV2.out; first | omega | (simp only [World.drew] at h1 ⊢; omega)), Mac.mcell_srow hHeld.2.2.2.2.1 (by have h1 := hV2.out; first | omega | (simp only [World.drew] at h1 ⊢; omega)), Mac.mcell_srow hHeld.2.2.2.2.2.1 (by have h1 := hV2.out; first | omega | (simp only [World.drew] at h1 ⊢; omega)), Mac.mcell_srow hHeld.2.2.2.2.2.2.1 (by have h1 := hV2.out; first | omega | (simp only [World.drew] at h1 ⊢; omega)), Mac.mcell_srow hHeld.2.2.2.2.2.2.2 (by have h1 := hV2.out; first | omega | (simp only [World.drew] at h1 ⊢; omega))⟩
                clear hK K
                (try simp only [Act.put, List.setIfInBounds_toArray, List.set_cons_zero, List.set_cons_succ, List.getElem_toArray, List.getElem_cons_zero, List.getElem_cons_succ])
                refine wpAnyH_done (by kernel_rfl) ?_ _
                go_wp2_with fail
                go_meet
                exact ⟨_, rfl, Hid.mk (Mac.row_below HR.out hV.out _), Hid.mk (Mac.row_self AV.out _)⟩
              exact AllReadyH.nil
            exact AllReadyH.nil
          refine AllReadyH.cons rfl (fun K hK => ?_) ?_
          · go_simp
            have AV := Hid.mk (Mac.mblk_of HR.out (.cells #[.int .i64 0, .int .i64 0, .int .i64 0] 59))
            have hV := Hid.mk HR.out.size
            have hV2 := Hid.mk (Nat.lt_of_lt_of_le hwb.out hV.out)
            have HR := Hid.mk (HR.out.alloc HR.out.size (.cells #[.int .i64 0, .int .i64 0, .int .i64 0] 59))
            (try have KC := Hid.mk (KC.out.below ((Below.refl _ _).alloc (Nat.le_refl _) (.cells #[.int .i64 0, .int .i64 0, .int .i64 0] 59))))
            (try have KI := Hid.mk (KI.out.below ((Below.refl _ _).alloc (Nat.le_refl _) (.cells #[.int .i64 0, .int .i64 0, .int .i64 0] 59))))
            (try have KL := Hid.mk (KL.out.below ((Below.refl _ _).alloc (Nat.le_refl _) (.cells #[.int .i64 0, .int .i64 0, .int .i64 0] 59))))
            refine hK.out _ _ ?_ (fun hHeld => ?_)
            · exact ⟨cell_alloc' hHeld.1 _, cell_alloc' hHeld.2.1 _, cell_alloc' hHeld.2.2.1 _, cell_alloc' hHeld.2.2.2.1 _, cell_alloc' hHeld.2.2.2.2.1 _, cell_alloc' hHeld.2.2.2.2.2.1 _, cell_alloc' hHeld.2.2.2.2.2.2.1 _, cell_alloc' hHeld.2.2.2.2.2.2.2 _⟩
            clear hK K
            (try simp only [Act.put, List.setIfInBounds_toArray, List.set_cons_zero, List.set_cons_succ, List.getElem_toArray, List.getElem_cons_zero, List.getElem_cons_succ])
            refine wpAnyH_ready (rs := [7]) (by kernel_rfl) (by simp) ?_
            refine AllReadyH.cons rfl (fun K hK => ?_) ?_
            · go_simp
              refine (Mac.routeTopS _ _ _ _ _ _ _ _ _ _ _ _ C I v _ n n L _ KC.out KI.out KL.out m1 m2 m3 m4 m5 m6 hn (Nat.le_refl _)).mono ?_
              rw [← HRV.out]
              rintro e wk7 ⟨rfl, hb⟩
              have HR := Hid.mk (below_then HR.out hb)
              (try have KC := Hid.mk (KC.out.below hb))
              (try have KI := Hid.mk (KI.out.below hb))
              (try have KL := Hid.mk (KL.out.below hb))
              (try have AV := Hid.mk (blk_below AV.out hb))
              refine hK.out _ _ ?_ (fun hHeld => ?_)
              · exact ⟨cell_keep hb hHeld.1, cell_keep hb hHeld.2.1, cell_keep hb hHeld.2.2.1, cell_keep hb hHeld.2.2.2.1, cell_keep hb hHeld.2.2.2.2.1, cell_keep hb hHeld.2.2.2.2.2.1, cell_keep hb hHeld.2.2.2.2.2.2.1, cell_keep hb hHeld.2.2.2.2.2.2.2⟩
              clear hK K
              (try simp only [Act.put, List.setIfInBounds_toArray, List.set_cons_zero, List.set_cons_succ, List.getElem_toArray, List.getElem_cons_zero, List.getElem_cons_succ])
              refine wpAnyH_ready (rs := [9]) (by kernel_rfl) (by simp) ?_
              refine AllReadyH.cons rfl (fun K hK => ?_) ?_
              · rw [if_pos (by rfl)]
                refine wp_store_row _ _ _ rfl _ #[.int .i64 rv.1, .int .i64 rv.2.1, .int .i64 rv.2.2] rfl rfl _ _ AV.out Mac.infoVdI rfl (by simp [Value.oneCell']) ?_
                refine hK.out _ _ ?_ (fun hHeld => ?_)
                · exact ⟨Mac.mcell_srow hHeld.1 (by have h1 := hV2.out; first | omega | (simp only [World.drew] at h1 ⊢; omega)), Mac.mcell_srow hHeld.2.1 (by have h1 := hV2.out; first | omega | (simp only [World.drew] at h1 ⊢; omega)), Mac.mcell_srow hHeld.2.2.1 (by have h1 := hV2.out; first | omega | (simp only [World.drew] at h1 ⊢; omega)), Mac.mcell_srow hHeld.2.2.2.1 (by have h1 := hV2.out; first | omega | (simp only [World.drew] at h1 ⊢; omega)), Mac.mcell_srow hHeld.2.2.2.2.1 (by have h1 := hV2.out; first | omega | (simp only [World.drew] at h1 ⊢; omega)), Mac.mcell_srow hHeld.2.2.2.2.2.1 (by have h1 := hV2.out; first | omega | (simp only [World.drew] at h1 ⊢; omega)), Mac.mcell_srow hHeld.2.2.2.2.2.2.1 (by have h1 := hV2.out; first | omega | (simp only [World.drew] at h1 ⊢; omega)), Mac.mcell_srow hHeld.2.2.2.2.2.2.2 (by have h1 := hV2.out; first | omega | (simp only [World.drew] at h1 ⊢; omega))⟩
                clear hK K
                (try simp only [Act.put, List.setIfInBounds_toArray, List.set_cons_zero, List.set_cons_succ, List.getElem_toArray, List.getElem_cons_zero, List.getElem_cons_succ])
                refine wpAnyH_done (by kernel_rfl) ?_ _
                go_wp2_with fail
                go_meet
                exact ⟨_, rfl, Hid.mk (Mac.row_below HR.out hV.out _), Hid.mk (Mac.row_self AV.out _)⟩
              exact AllReadyH.nil
            exact AllReadyH.nil
          exact AllReadyH.nil
        refine AllReadyH.cons rfl (fun K hK => ?_) ?_
        · go_simp
          have AV := Hid.mk (Mac.mblk_of HR.out (.cells #[.int .i64 0, .int .i64 0, .int .i64 0] 59))
          have hV := Hid.mk HR.out.size
          have hV2 := Hid.mk (Nat.lt_of_lt_of_le hwb.out hV.out)
          have HR := Hid.mk (HR.out.alloc HR.out.size (.cells #[.int .i64 0, .int .i64 0, .int .i64 0] 59))
          (try have KC := Hid.mk (KC.out.below ((Below.refl _ _).alloc (Nat.le_refl _) (.cells #[.int .i64 0, .int .i64 0, .int .i64 0] 59))))
          (try have KI := Hid.mk (KI.out.below ((Below.refl _ _).alloc (Nat.le_refl _) (.cells #[.int .i64 0, .int .i64 0, .int .i64 0] 59))))
          (try have KL := Hid.mk (KL.out.below ((Below.refl _ _).alloc (Nat.le_refl _) (.cells #[.int .i64 0, .int .i64 0, .int .i64 0] 59))))
          refine hK.out _ _ ?_ (fun hHeld => ?_)
          · exact ⟨cell_alloc' hHeld.1 _, cell_alloc' hHeld.2.1 _, cell_alloc' hHeld.2.2.1 _, cell_alloc' hHeld.2.2.2.1 _, cell_alloc' hHeld.2.2.2.2.1 _, cell_alloc' hHeld.2.2.2.2.2.1 _, cell_alloc' hHeld.2.2.2.2.2.2.1 _, cell_alloc' hHeld.2.2.2.2.2.2.2 _⟩
          clear hK K
          (try simp only [Act.put, List.setIfInBounds_toArray, List.set_cons_zero, List.set_cons_succ, List.getElem_toArray, List.getElem_cons_zero, List.getElem_cons_succ])
          refine wpAnyH_ready (rs := [6]) (by kernel_rfl) (by simp) ?_
          refine AllReadyH.cons rfl (fun K hK => ?_) ?_
          · go_simp
            refine (toRoute s n t L _ (HL.out.below (below_then HB.out HR.out)) hn).mono ?_
            rintro e wk6 ⟨gl, rfl, hcp, hb⟩
            have HR := Hid.mk (below_then HR.out hb)
            (try have KC := Hid.mk (KC.out.below hb))
            (try have KI := Hid.mk (KI.out.below hb))
            (try have KL := Hid.mk (KL.out.below hb))
            (try have AV := Hid.mk (blk_below AV.out hb))
            have KL := Hid.mk hcp
            refine hK.out _ _ ?_ (fun hHeld => ?_)
            · exact ⟨cell_keep hb hHeld.1, cell_keep hb hHeld.2.1, cell_keep hb hHeld.2.2.1, cell_keep hb hHeld.2.2.2.1, cell_keep hb hHeld.2.2.2.2.1, cell_keep hb hHeld.2.2.2.2.2.1, cell_keep hb hHeld.2.2.2.2.2.2.1, cell_keep hb hHeld.2.2.2.2.2.2.2⟩
            clear hK K
            (try simp only [Act.put, List.setIfInBounds_toArray, List.set_cons_zero, List.set_cons_succ, List.getElem_toArray, List.getElem_cons_zero, List.getElem_cons_succ])
            refine wpAnyH_ready (rs := [7]) (by kernel_rfl) (by simp) ?_
            refine AllReadyH.cons rfl (fun K hK => ?_) ?_
            · go_simp
              refine (Mac.routeTopS _ _ _ _ _ _ _ _ _ _ _ _ C I v _ n n L _ KC.out KI.out KL.out m1 m2 m3 m4 m5 m6 hn (Nat.le_refl _)).mono ?_
              rw [← HRV.out]
              rintro e wk7 ⟨rfl, hb⟩
              have HR := Hid.mk (below_then HR.out hb)
              (try have KC := Hid.mk (KC.out.below hb))
              (try have KI := Hid.mk (KI.out.below hb))
              (try have KL := Hid.mk (KL.out.below hb))
              (try have AV := Hid.mk (blk_below AV.out hb))
              refine hK.out _ _ ?_ (fun hHeld => ?_)
              · exact ⟨cell_keep hb hHeld.1, cell_keep hb hHeld.2.1, cell_keep hb hHeld.2.2.1, cell_keep hb hHeld.2.2.2.1, cell_keep hb hHeld.2.2.2.2.1, cell_keep hb hHeld.2.2.2.2.2.1, cell_keep hb hHeld.2.2.2.2.2.2.1, cell_keep hb hHeld.2.2.2.2.2.2.2⟩
              clear hK K
              (try simp only [Act.put, List.setIfInBounds_toArray, List.set_cons_zero, List.set_cons_succ, List.getElem_toArray, List.getElem_cons_zero, List.getElem_cons_succ])
              refine wpAnyH_ready (rs := [9]) (by kernel_rfl) (by simp) ?_
              refine AllReadyH.cons rfl (fun K hK => ?_) ?_
              · rw [if_pos (by rfl)]
                refine wp_store_row _ _ _ rfl _ #[.int .i64 rv.1, .int .i64 rv.2.1, .int .i64 rv.2.2] rfl rfl _ _ AV.out Mac.infoVdI rfl (by simp [Value.oneCell']) ?_
                refine hK.out _ _ ?_ (fun hHeld => ?_)
                · exact ⟨Mac.mcell_srow hHeld.1 (by have h1 := hV2.out; first | omega | (simp only [World.drew] at h1 ⊢; omega)), Mac.mcell_srow hHeld.2.1 (by have h1 := hV2.out; first | omega | (simp only [World.drew] at h1 ⊢; omega)), Mac.mcell_srow hHeld.2.2.1 (by have h1 := hV2.out; first | omega | (simp only [World.drew] at h1 ⊢; omega)), Mac.mcell_srow hHeld.2.2.2.1 (by have h1 := hV2.out; first | omega | (simp only [World.drew] at h1 ⊢; omega)), Mac.mcell_srow hHeld.2.2.2.2.1 (by have h1 := hV2.out; first | omega | (simp only [World.drew] at h1 ⊢; omega)), Mac.mcell_srow hHeld.2.2.2.2.2.1 (by have h1 := hV2.out; first | omega | (simp only [World.drew] at h1 ⊢; omega)), Mac.mcell_srow hHeld.2.2.2.2.2.2.1 (by have h1 := hV2.out; first | omega | (simp only [World.drew] at h1 ⊢; omega)), Mac.mcell_srow hHeld.2.2.2.2.2.2.2 (by have h1 := hV2.out; first | omega | (simp only [World.drew] at h1 ⊢; omega))⟩
                clear hK K
                (try simp only [Act.put, List.setIfInBounds_toArray, List.set_cons_zero, List.set_cons_succ, List.getElem_toArray, List.getElem_cons_zero, List.getElem_cons_succ])
                refine wpAnyH_done (by kernel_rfl) ?_ _
                go_wp2_with fail
                go_meet
                exact ⟨_, rfl, Hid.mk (Mac.row_below HR.out hV.out _), Hid.mk (Mac.row_self AV.out _)⟩
              exact AllReadyH.nil
            exact AllReadyH.nil
          exact AllReadyH.nil
        exact AllReadyH.nil
      refine AllReadyH.cons rfl (fun K hK => ?_) ?_
      · go_simp
        have AV := Hid.mk (Mac.mblk_of HR.out (.cells #[.int .i64 0, .int .i64 0, .int .i64 0] 59))
        have hV := Hid.mk HR.out.size
        have hV2 := Hid.mk (Nat.lt_of_lt_of_le hwb.out hV.out)
        have HR := Hid.mk (HR.out.alloc HR.out.size (.cells #[.int .i64 0, .int .i64 0, .int .i64 0] 59))
        (try have KC := Hid.mk (KC.out.below ((Below.refl _ _).alloc (Nat.le_refl _) (.cells #[.int .i64 0, .int .i64 0, .int .i64 0] 59))))
        (try have KI := Hid.mk (KI.out.below ((Below.refl _ _).alloc (Nat.le_refl _) (.cells #[.int .i64 0, .int .i64 0, .int .i64 0] 59))))
        (try have KL := Hid.mk (KL.out.below ((Below.refl _ _).alloc (Nat.le_refl _) (.cells #[.int .i64 0, .int .i64 0, .int .i64 0] 59))))
        refine hK.out _ _ ?_ (fun hHeld => ?_)
        · exact ⟨cell_alloc' hHeld.1 _, cell_alloc' hHeld.2.1 _, cell_alloc' hHeld.2.2.1 _, cell_alloc' hHeld.2.2.2.1 _, cell_alloc' hHeld.2.2.2.2.1 _, cell_alloc' hHeld.2.2.2.2.2.1 _, cell_alloc' hHeld.2.2.2.2.2.2.1 _, cell_alloc' hHeld.2.2.2.2.2.2.2 _⟩
        clear hK K
        (try simp only [Act.put, List.setIfInBounds_toArray, List.set_cons_zero, List.set_cons_succ, List.getElem_toArray, List.getElem_cons_zero, List.getElem_cons_succ])
        refine wpAnyH_ready (rs := [3]) (by kernel_rfl) (by simp) ?_
        refine AllReadyH.cons rfl (fun K hK => ?_) ?_
        · go_simp
          refine (Copy.toInst b1 b2 b3 d1 d2 d3 I _ (HI.out.below (below_then HB.out HR.out)) m4 m5 m6).mono ?_
          rintro e wk3 ⟨p1, p2, p3, rfl, hb, hcp, -⟩
          have HR := Hid.mk (below_then HR.out hb)
          (try have KC := Hid.mk (KC.out.below hb))
          (try have KI := Hid.mk (KI.out.below hb))
          (try have KL := Hid.mk (KL.out.below hb))
          (try have AV := Hid.mk (blk_below AV.out hb))
          have KI := Hid.mk hcp
          refine hK.out _ _ ?_ (fun hHeld => ?_)
          · exact ⟨cell_keep hb hHeld.1, cell_keep hb hHeld.2.1, cell_keep hb hHeld.2.2.1, cell_keep hb hHeld.2.2.2.1, cell_keep hb hHeld.2.2.2.2.1, cell_keep hb hHeld.2.2.2.2.2.1, cell_keep hb hHeld.2.2.2.2.2.2.1, cell_keep hb hHeld.2.2.2.2.2.2.2⟩
          clear hK K
          (try simp only [Act.put, List.setIfInBounds_toArray, List.set_cons_zero, List.set_cons_succ, List.getElem_toArray, List.getElem_cons_zero, List.getElem_cons_succ])
          refine wpAnyH_ready (rs := [6]) (by kernel_rfl) (by simp) ?_
          refine AllReadyH.cons rfl (fun K hK => ?_) ?_
          · go_simp
            refine (toRoute s n t L _ (HL.out.below (below_then HB.out HR.out)) hn).mono ?_
            rintro e wk6 ⟨gl, rfl, hcp, hb⟩
            have HR := Hid.mk (below_then HR.out hb)
            (try have KC := Hid.mk (KC.out.below hb))
            (try have KI := Hid.mk (KI.out.below hb))
            (try have KL := Hid.mk (KL.out.below hb))
            (try have AV := Hid.mk (blk_below AV.out hb))
            have KL := Hid.mk hcp
            refine hK.out _ _ ?_ (fun hHeld => ?_)
            · exact ⟨cell_keep hb hHeld.1, cell_keep hb hHeld.2.1, cell_keep hb hHeld.2.2.1, cell_keep hb hHeld.2.2.2.1, cell_keep hb hHeld.2.2.2.2.1, cell_keep hb hHeld.2.2.2.2.2.1, cell_keep hb hHeld.2.2.2.2.2.2.1, cell_keep hb hHeld.2.2.2.2.2.2.2⟩
            clear hK K
            (try simp only [Act.put, List.setIfInBounds_toArray, List.set_cons_zero, List.set_cons_succ, List.getElem_toArray, List.getElem_cons_zero, List.getElem_cons_succ])
            refine wpAnyH_ready (rs := [7]) (by kernel_rfl) (by simp) ?_
            refine AllReadyH.cons rfl (fun K hK => ?_) ?_
            · go_simp
              refine (Mac.routeTopS _ _ _ _ _ _ _ _ _ _ _ _ C I v _ n n L _ KC.out KI.out KL.out m1 m2 m3 m4 m5 m6 hn (Nat.le_refl _)).mono ?_
              rw [← HRV.out]
              rintro e wk7 ⟨rfl, hb⟩
              have HR := Hid.mk (below_then HR.out hb)
              (try have KC := Hid.mk (KC.out.below hb))
              (try have KI := Hid.mk (KI.out.below hb))
              (try have KL := Hid.mk (KL.out.below hb))
              (try have AV := Hid.mk (blk_below AV.out hb))
              refine hK.out _ _ ?_ (fun hHeld => ?_)
              · exact ⟨cell_keep hb hHeld.1, cell_keep hb hHeld.2.1, cell_keep hb hHeld.2.2.1, cell_keep hb hHeld.2.2.2.1, cell_keep hb hHeld.2.2.2.2.1, cell_keep hb hHeld.2.2.2.2.2.1, cell_keep hb hHeld.2.2.2.2.2.2.1, cell_keep hb hHeld.2.2.2.2.2.2.2⟩
              clear hK K
              (try simp only [Act.put, List.setIfInBounds_toArray, List.set_cons_zero, List.set_cons_succ, List.getElem_toArray, List.getElem_cons_zero, List.getElem_cons_succ])
              refine wpAnyH_ready (rs := [9]) (by kernel_rfl) (by simp) ?_
              refine AllReadyH.cons rfl (fun K hK => ?_) ?_
              · rw [if_pos (by rfl)]
                refine wp_store_row _ _ _ rfl _ #[.int .i64 rv.1, .int .i64 rv.2.1, .int .i64 rv.2.2] rfl rfl _ _ AV.out Mac.infoVdI rfl (by simp [Value.oneCell']) ?_
                refine hK.out _ _ ?_ (fun hHeld => ?_)
                · exact ⟨Mac.mcell_srow hHeld.1 (by have h1 := hV2.out; first | omega | (simp only [World.drew] at h1 ⊢; omega)), Mac.mcell_srow hHeld.2.1 (by have h1 := hV2.out; first | omega | (simp only [World.drew] at h1 ⊢; omega)), Mac.mcell_srow hHeld.2.2.1 (by have h1 := hV2.out; first | omega | (simp only [World.drew] at h1 ⊢; omega)), Mac.mcell_srow hHeld.2.2.2.1 (by have h1 := hV2.out; first | omega | (simp only [World.drew] at h1 ⊢; omega)), Mac.mcell_srow hHeld.2.2.2.2.1 (by have h1 := hV2.out; first | omega | (simp only [World.drew] at h1 ⊢; omega)), Mac.mcell_srow hHeld.2.2.2.2.2.1 (by have h1 := hV2.out; first | omega | (simp only [World.drew] at h1 ⊢; omega)), Mac.mcell_srow hHeld.2.2.2.2.2.2.1 (by have h1 := hV2.out; first | omega | (simp only [World.drew] at h1 ⊢; omega)), Mac.mcell_srow hHeld.2.2.2.2.2.2.2 (by have h1 := hV2.out; first | omega | (simp only [World.drew] at h1 ⊢; omega))⟩
                clear hK K
                (try simp only [Act.put, List.setIfInBounds_toArray, List.set_cons_zero, List.set_cons_succ, List.getElem_toArray, List.getElem_cons_zero, List.getElem_cons_succ])
                refine wpAnyH_done (by kernel_rfl) ?_ _
                go_wp2_with fail
                go_meet
                exact ⟨_, rfl, Hid.mk (Mac.row_below HR.out hV.out _), Hid.mk (Mac.row_self AV.out _)⟩
              exact AllReadyH.nil
            exact AllReadyH.nil
          exact AllReadyH.nil
        exact AllReadyH.nil
      exact AllReadyH.nil
    refine AllReadyH.cons rfl (fun K hK => ?_) ?_
    · go_simp
      have AV := Hid.mk (Mac.mblk_of HR.out (.cells #[.int .i64 0, .int .i64 0, .int .i64 0] 59))
      have hV := Hid.mk HR.out.size
      have hV2 := Hid.mk (Nat.lt_of_lt_of_le hwb.out hV.out)
      have HR := Hid.mk (HR.out.alloc HR.out.size (.cells #[.int .i64 0, .int .i64 0, .int .i64 0] 59))
      (try have KC := Hid.mk (KC.out.below ((Below.refl _ _).alloc (Nat.le_refl _) (.cells #[.int .i64 0, .int .i64 0, .int .i64 0] 59))))
      (try have KI := Hid.mk (KI.out.below ((Below.refl _ _).alloc (Nat.le_refl _) (.cells #[.int .i64 0, .int .i64 0, .int .i64 0] 59))))
      (try have KL := Hid.mk (KL.out.below ((Below.refl _ _).alloc (Nat.le_refl _) (.cells #[.int .i64 0, .int .i64 0, .int .i64 0] 59))))
      refine hK.out _ _ ?_ (fun hHeld => ?_)
      · exact ⟨cell_alloc' hHeld.1 _, cell_alloc' hHeld.2.1 _, cell_alloc' hHeld.2.2.1 _, cell_alloc' hHeld.2.2.2.1 _, cell_alloc' hHeld.2.2.2.2.1 _, cell_alloc' hHeld.2.2.2.2.2.1 _, cell_alloc' hHeld.2.2.2.2.2.2.1 _, cell_alloc' hHeld.2.2.2.2.2.2.2 _⟩
      clear hK K
      (try simp only [Act.put, List.setIfInBounds_toArray, List.set_cons_zero, List.set_cons_succ, List.getElem_toArray, List.getElem_cons_zero, List.getElem_cons_succ])
      refine wpAnyH_ready (rs := [1]) (by kernel_rfl) (by simp) ?_
      refine AllReadyH.cons rfl (fun K hK => ?_) ?_
      · go_simp
        refine (Copy.toCode a1 a2 a3 c1 c2 c3 C _ (HC.out.below (below_then HB.out HR.out)) m1 m2 m3).mono ?_
        rintro e wk1 ⟨p1, p2, p3, rfl, hb, hcp, -⟩
        have HR := Hid.mk (below_then HR.out hb)
        (try have KC := Hid.mk (KC.out.below hb))
        (try have KI := Hid.mk (KI.out.below hb))
        (try have KL := Hid.mk (KL.out.below hb))
        (try have AV := Hid.mk (blk_below AV.out hb))
        have KC := Hid.mk hcp
        refine hK.out _ _ ?_ (fun hHeld => ?_)
        · exact ⟨cell_keep hb hHeld.1, cell_keep hb hHeld.2.1, cell_keep hb hHeld.2.2.1, cell_keep hb hHeld.2.2.2.1, cell_keep hb hHeld.2.2.2.2.1, cell_keep hb hHeld.2.2.2.2.2.1, cell_keep hb hHeld.2.2.2.2.2.2.1, cell_keep hb hHeld.2.2.2.2.2.2.2⟩
        clear hK K
        (try simp only [Act.put, List.setIfInBounds_toArray, List.set_cons_zero, List.set_cons_succ, List.getElem_toArray, List.getElem_cons_zero, List.getElem_cons_succ])
        refine wpAnyH_ready (rs := [3]) (by kernel_rfl) (by simp) ?_
        refine AllReadyH.cons rfl (fun K hK => ?_) ?_
        · go_simp
          refine (Copy.toInst b1 b2 b3 d1 d2 d3 I _ (HI.out.below (below_then HB.out HR.out)) m4 m5 m6).mono ?_
          rintro e wk3 ⟨p1, p2, p3, rfl, hb, hcp, -⟩
          have HR := Hid.mk (below_then HR.out hb)
          (try have KC := Hid.mk (KC.out.below hb))
          (try have KI := Hid.mk (KI.out.below hb))
          (try have KL := Hid.mk (KL.out.below hb))
          (try have AV := Hid.mk (blk_below AV.out hb))
          have KI := Hid.mk hcp
          refine hK.out _ _ ?_ (fun hHeld => ?_)
          · exact ⟨cell_keep hb hHeld.1, cell_keep hb hHeld.2.1, cell_keep hb hHeld.2.2.1, cell_keep hb hHeld.2.2.2.1, cell_keep hb hHeld.2.2.2.2.1, cell_keep hb hHeld.2.2.2.2.2.1, cell_keep hb hHeld.2.2.2.2.2.2.1, cell_keep hb hHeld.2.2.2.2.2.2.2⟩
          clear hK K
          (try simp only [Act.put, List.setIfInBounds_toArray, List.set_cons_zero, List.set_cons_succ, List.getElem_toArray, List.getElem_cons_zero, List.getElem_cons_succ])
          refine wpAnyH_ready (rs := [6]) (by kernel_rfl) (by simp) ?_
          refine AllReadyH.cons rfl (fun K hK => ?_) ?_
          · go_simp
            refine (toRoute s n t L _ (HL.out.below (below_then HB.out HR.out)) hn).mono ?_
            rintro e wk6 ⟨gl, rfl, hcp, hb⟩
            have HR := Hid.mk (below_then HR.out hb)
            (try have KC := Hid.mk (KC.out.below hb))
            (try have KI := Hid.mk (KI.out.below hb))
            (try have KL := Hid.mk (KL.out.below hb))
            (try have AV := Hid.mk (blk_below AV.out hb))
            have KL := Hid.mk hcp
            refine hK.out _ _ ?_ (fun hHeld => ?_)
            · exact ⟨cell_keep hb hHeld.1, cell_keep hb hHeld.2.1, cell_keep hb hHeld.2.2.1, cell_keep hb hHeld.2.2.2.1, cell_keep hb hHeld.2.2.2.2.1, cell_keep hb hHeld.2.2.2.2.2.1, cell_keep hb hHeld.2.2.2.2.2.2.1, cell_keep hb hHeld.2.2.2.2.2.2.2⟩
            clear hK K
            (try simp only [Act.put, List.setIfInBounds_toArray, List.set_cons_zero, List.set_cons_succ, List.getElem_toArray, List.getElem_cons_zero, List.getElem_cons_succ])
            refine wpAnyH_ready (rs := [7]) (by kernel_rfl) (by simp) ?_
            refine AllReadyH.cons rfl (fun K hK => ?_) ?_
            · go_simp
              refine (Mac.routeTopS _ _ _ _ _ _ _ _ _ _ _ _ C I v _ n n L _ KC.out KI.out KL.out m1 m2 m3 m4 m5 m6 hn (Nat.le_refl _)).mono ?_
              rw [← HRV.out]
              rintro e wk7 ⟨rfl, hb⟩
              have HR := Hid.mk (below_then HR.out hb)
              (try have KC := Hid.mk (KC.out.below hb))
              (try have KI := Hid.mk (KI.out.below hb))
              (try have KL := Hid.mk (KL.out.below hb))
              (try have AV := Hid.mk (blk_below AV.out hb))
              refine hK.out _ _ ?_ (fun hHeld => ?_)
              · exact ⟨cell_keep hb hHeld.1, cell_keep hb hHeld.2.1, cell_keep hb hHeld.2.2.1, cell_keep hb hHeld.2.2.2.1, cell_keep hb hHeld.2.2.2.2.1, cell_keep hb hHeld.2.2.2.2.2.1, cell_keep hb hHeld.2.2.2.2.2.2.1, cell_keep hb hHeld.2.2.2.2.2.2.2⟩
              clear hK K
              (try simp only [Act.put, List.setIfInBounds_toArray, List.set_cons_zero, List.set_cons_succ, List.getElem_toArray, List.getElem_cons_zero, List.getElem_cons_succ])
              refine wpAnyH_ready (rs := [9]) (by kernel_rfl) (by simp) ?_
              refine AllReadyH.cons rfl (fun K hK => ?_) ?_
              · rw [if_pos (by rfl)]
                refine wp_store_row _ _ _ rfl _ #[.int .i64 rv.1, .int .i64 rv.2.1, .int .i64 rv.2.2] rfl rfl _ _ AV.out Mac.infoVdI rfl (by simp [Value.oneCell']) ?_
                refine hK.out _ _ ?_ (fun hHeld => ?_)
                · exact ⟨Mac.mcell_srow hHeld.1 (by have h1 := hV2.out; first | omega | (simp only [World.drew] at h1 ⊢; omega)), Mac.mcell_srow hHeld.2.1 (by have h1 := hV2.out; first | omega | (simp only [World.drew] at h1 ⊢; omega)), Mac.mcell_srow hHeld.2.2.1 (by have h1 := hV2.out; first | omega | (simp only [World.drew] at h1 ⊢; omega)), Mac.mcell_srow hHeld.2.2.2.1 (by have h1 := hV2.out; first | omega | (simp only [World.drew] at h1 ⊢; omega)), Mac.mcell_srow hHeld.2.2.2.2.1 (by have h1 := hV2.out; first | omega | (simp only [World.drew] at h1 ⊢; omega)), Mac.mcell_srow hHeld.2.2.2.2.2.1 (by have h1 := hV2.out; first | omega | (simp only [World.drew] at h1 ⊢; omega)), Mac.mcell_srow hHeld.2.2.2.2.2.2.1 (by have h1 := hV2.out; first | omega | (simp only [World.drew] at h1 ⊢; omega)), Mac.mcell_srow hHeld.2.2.2.2.2.2.2 (by have h1 := hV2.out; first | omega | (simp only [World.drew] at h1 ⊢; omega))⟩
                clear hK K
                (try simp only [Act.put, List.setIfInBounds_toArray, List.set_cons_zero, List.set_cons_succ, List.getElem_toArray, List.getElem_cons_zero, List.getElem_cons_succ])
                refine wpAnyH_done (by kernel_rfl) ?_ _
                go_wp2_with fail
                go_meet
                exact ⟨_, rfl, Hid.mk (Mac.row_below HR.out hV.out _), Hid.mk (Mac.row_self AV.out _)⟩
              exact AllReadyH.nil
            exact AllReadyH.nil
          exact AllReadyH.nil
        exact AllReadyH.nil
      exact AllReadyH.nil
    exact AllReadyH.nil
  case rest =>
    obtain ⟨V, rfl, BW, V0⟩ := hcut
    rename World => wq
    have HBq := Hid.mk (below_then HB.out BW.out)
    have B0 := Hid.mk (blk_below A0.out BW.out)
    have B1 := Hid.mk (blk_below A1.out BW.out)
    clear HB BW HSS hwb A0 A1
    have A0 := B0
    have A1 := B1
    clear B0 B1
    have BQ_0 := Hid.mk (Below.refl wq.heap.size wq)
    have x0 := blk_cell (blk_below A0.out BQ_0.out) 0
    have x1 := blk_cell (blk_below A0.out BQ_0.out) 1
    have x2 := blk_cell (blk_below A0.out BQ_0.out) 2
    have x3 := blk_cell (blk_below A0.out BQ_0.out) 3
    have x4 := blk_cell (blk_below A0.out BQ_0.out) 4
    simp only [List.getElem?_toArray, List.getElem?_cons_zero, List.getElem?_cons_succ] at x0 x1 x2 x3 x4
    go_wp2_with fail
    clear x0 x1 x2 x3 x4
    refine (Copy.toCode a1 a2 a3 c1 c2 c3 C _ (HC.out.below (below_then HBq.out BQ_0.out)) m1 m2 m3).mono ?_
    rintro e cw0 ⟨q1, q2, q3, rfl, hb, hcp, -⟩
    have hg : Below cw0.heap.size cw0 (cw0.alloc (.cells #[.int .i64 C.R, .int .i64 C.S, .slice (some ⟨q1, 0, none⟩) C.n1 C.n1, .slice (some ⟨q2, 0, none⟩) C.n2 C.n2, .slice (some ⟨q3, 0, none⟩) C.n3 C.n3] 38)) := by go_grown
    have hb' := below_then hb hg
    have K0' := Hid.mk (hcp.below hg)
    have X0' := Hid.mk (blk_new cw0 (.cells #[.int .i64 C.R, .int .i64 C.S, .slice (some ⟨q1, 0, none⟩) C.n1 C.n1, .slice (some ⟨q2, 0, none⟩) C.n2 C.n2, .slice (some ⟨q3, 0, none⟩) C.n3 C.n3] 38))
    have BQ_1 := Hid.mk (below_then BQ_0.out hb')
    clear BQ_0
    have K0_1 := K0'
    have X0_1 := X0'
    clear hb hb' hg hcp K0' X0'
    have x0 := blk_cell (blk_below A1.out BQ_1.out) 0
    have x1 := blk_cell (blk_below A1.out BQ_1.out) 1
    have x2 := blk_cell (blk_below A1.out BQ_1.out) 2
    simp only [List.getElem?_toArray, List.getElem?_cons_zero, List.getElem?_cons_succ] at x0 x1 x2
    go_wp2_with fail
    clear x0 x1 x2
    refine (Copy.toInst b1 b2 b3 d1 d2 d3 I _ (HI.out.below (below_then HBq.out BQ_1.out)) m4 m5 m6).mono ?_
    rintro e cw1 ⟨o1, o2, o3, rfl, hb, hcp, -⟩
    have hg : Below cw1.heap.size cw1 (cw1.alloc (.cells #[.slice (some ⟨o1, 0, none⟩) I.nV I.nV, .slice (some ⟨o2, 0, none⟩) I.nQ I.nQ, .slice (some ⟨o3, 0, none⟩) I.nR I.nR] 44)) := by go_grown
    have hb' := below_then hb hg
    have K1' := Hid.mk (hcp.below hg)
    have X1' := Hid.mk (blk_new cw1 (.cells #[.slice (some ⟨o1, 0, none⟩) I.nV I.nV, .slice (some ⟨o2, 0, none⟩) I.nQ I.nQ, .slice (some ⟨o3, 0, none⟩) I.nR I.nR] 44))
    have BQ_2 := Hid.mk (below_then BQ_1.out hb')
    have K0_2 := Hid.mk (K0_1.out.below hb')
    have X0_2 := Hid.mk (blk_below X0_1.out hb')
    clear BQ_1 K0_1 X0_1
    have K1_2 := K1'
    have X1_2 := X1'
    clear hb hb' hg hcp K1' X1'
    go_wp2_with fail
    refine (toRoute s n t L _ (HL.out.below (below_then HBq.out BQ_2.out)) hn).mono ?_
    rintro e cw2 ⟨gl, rfl, hcp, hb⟩
    have K2' := Hid.mk hcp
    have BQ_3 := Hid.mk (below_then BQ_2.out hb)
    have K0_3 := Hid.mk (K0_2.out.below hb)
    have X0_3 := Hid.mk (blk_below X0_2.out hb)
    have K1_3 := Hid.mk (K1_2.out.below hb)
    have X1_3 := Hid.mk (blk_below X1_2.out hb)
    clear BQ_2 K0_2 X0_2 K1_2 X1_2
    have K2_3 := K2'
    clear hb hcp K2'
    have x0 := blk_cell X0_3.out 0
    have x1 := blk_cell X0_3.out 1
    have x2 := blk_cell X0_3.out 2
    have x3 := blk_cell X0_3.out 3
    have x4 := blk_cell X0_3.out 4
    have y0 := blk_cell X1_3.out 0
    have y1 := blk_cell X1_3.out 1
    have y2 := blk_cell X1_3.out 2
    simp only [List.getElem?_toArray, List.getElem?_cons_zero, List.getElem?_cons_succ] at x0 x1 x2 x3 x4 y0 y1 y2
    go_wp2_with fail
    clear x0 x1 x2 x3 x4 y0 y1 y2
    refine (Mac.routeTopI _ _ _ _ _ _ _ _ _ _ _ _ _ n n C I v L _ K0_3.out K1_3.out K2_3.out m1 m2 m3 m4 m5 m6 hn (HT.out.below (below_then HBq.out BQ_3.out))).mono ?_
    rw [← HRV.out]
    rintro e ce ⟨rfl, hb0⟩
    have hg := (Below.refl ce.heap.size ce).alloc (Nat.le_refl _) (.cells #[.int .i64 rv.1, .int .i64 rv.2.1, .int .i64 rv.2.2] 59)
    have hb := below_then hb0 hg
    have VG' := Hid.mk (blk_new ce (.cells #[.int .i64 rv.1, .int .i64 rv.2.1, .int .i64 rv.2.2] 59))
    have BQ_4 := Hid.mk (below_then BQ_3.out hb)
    have K0_4 := Hid.mk (K0_3.out.below hb)
    have X0_4 := Hid.mk (blk_below X0_3.out hb)
    have K1_4 := Hid.mk (K1_3.out.below hb)
    have X1_4 := Hid.mk (blk_below X1_3.out hb)
    have K2_4 := Hid.mk (K2_3.out.below hb)
    clear BQ_3 K0_3 X0_3 K1_3 X1_3 K2_3
    have VG_4 := VG'
    clear hb hb0 hg VG'
    have x0 := blk_cell VG_4.out 0
    have x1 := blk_cell VG_4.out 1
    have x2 := blk_cell VG_4.out 2
    have y0 := blk_cell (blk_below V0.out BQ_4.out) 0
    have y1 := blk_cell (blk_below V0.out BQ_4.out) 1
    have y2 := blk_cell (blk_below V0.out BQ_4.out) 2
    simp only [List.getElem?_toArray, List.getElem?_cons_zero, List.getElem?_cons_succ] at x0 x1 x2 y0 y1 y2
    go_wp2_with fail
    clear x0 x1 x2 y0 y1 y2
    refine (eqVerdict _ _ _ _).mono ?_
    rintro e dw0 ⟨rfl, hb⟩
    have BQ_5 := Hid.mk (below_then BQ_4.out hb)
    have K0_5 := Hid.mk (K0_4.out.below hb)
    have X0_5 := Hid.mk (blk_below X0_4.out hb)
    have K1_5 := Hid.mk (K1_4.out.below hb)
    have X1_5 := Hid.mk (blk_below X1_4.out hb)
    have K2_5 := Hid.mk (K2_4.out.below hb)
    have VG_5 := Hid.mk (blk_below VG_4.out hb)
    clear BQ_4 K0_4 X0_4 K1_4 X1_4 K2_4 VG_4
    clear hb
    have x0 := blk_cell (blk_below A0.out BQ_5.out) 0
    have x1 := blk_cell (blk_below A0.out BQ_5.out) 1
    have x2 := blk_cell (blk_below A0.out BQ_5.out) 2
    have x3 := blk_cell (blk_below A0.out BQ_5.out) 3
    have x4 := blk_cell (blk_below A0.out BQ_5.out) 4
    have y0 := blk_cell X0_5.out 0
    have y1 := blk_cell X0_5.out 1
    have y2 := blk_cell X0_5.out 2
    have y3 := blk_cell X0_5.out 3
    have y4 := blk_cell X0_5.out 4
    simp only [List.getElem?_toArray, List.getElem?_cons_zero, List.getElem?_cons_succ] at x0 x1 x2 x3 x4 y0 y1 y2 y3 y4
    go_wp2_with fail
    have Kd : Hid (CoAt dw0.drew _ _ _ C) := K0_5.out.below (Below.refl _ _).drew
    have Hd : Hid (CoAt dw0.drew a1 a2 a3 C) := HC.out.below (below_then HBq.out BQ_5.out).drew
    go_region_held3 (fun w' => w'.cell? ⟨w.heap.size, 0, none⟩ = some (.int .i64 C.R) ∧ w'.cell? ⟨w.heap.size, 1, none⟩ = some (.int .i64 C.S) ∧ w'.cell? ⟨w.heap.size, 2, none⟩ = some (.slice a1 C.n1 c1) ∧ w'.cell? ⟨w.heap.size, 3, none⟩ = some (.slice a2 C.n2 c2) ∧ w'.cell? ⟨w.heap.size, 4, none⟩ = some (.slice a3 C.n3 c3) ∧ w'.cell? ⟨cw0.heap.size, 0, none⟩ = some (.int .i64 C.R) ∧ w'.cell? ⟨cw0.heap.size, 1, none⟩ = some (.int .i64 C.S) ∧ w'.cell? ⟨cw0.heap.size, 2, none⟩ = some (.slice (some ⟨q1, 0, none⟩) C.n1 C.n1) ∧ w'.cell? ⟨cw0.heap.size, 3, none⟩ = some (.slice (some ⟨q2, 0, none⟩) C.n2 C.n2) ∧ w'.cell? ⟨cw0.heap.size, 4, none⟩ = some (.slice (some ⟨q3, 0, none⟩) C.n3 C.n3))
      (first | go_keep | ((repeat' constructor) <;> first | exact cell_keep hb7 (by assumption) | exact cell_keep hb6 (by assumption) | exact cell_keep hb7 (by simp [*]; done) | exact cell_keep hb6 (by simp [*]; done)))
      ((first | (go_at_call 10; refine (Copy.toCode a1 a2 a3 c1 c2 c3 C _ Hd.out m1 m2 m3).mono ?_; rintro e dw1 ⟨e1', e2', e3', rfl, hb6, hI6, -⟩) | (go_at_call 14; refine (Eq.eqCode _ _ _ _ _ _ _ _ _ _ _ _ C _ (Kd.out.below hb6) hI6 m1 m2 m3).mono ?_; rintro e dw2 ⟨rfl, hb7⟩)))
    have hb8 := below_then (below_then ((Below.refl dw0.heap.size dw0).drew) hb6) hb7
    have BQ_6 := Hid.mk (below_then BQ_5.out hb8)
    have K0_6 := Hid.mk (K0_5.out.below hb8)
    have X0_6 := Hid.mk (blk_below X0_5.out hb8)
    have K1_6 := Hid.mk (K1_5.out.below hb8)
    have X1_6 := Hid.mk (blk_below X1_5.out hb8)
    have K2_6 := Hid.mk (K2_5.out.below hb8)
    have VG_6 := Hid.mk (blk_below VG_5.out hb8)
    clear BQ_5 K0_5 X0_5 K1_5 X1_5 K2_5 VG_5
    clear hb6 hb7 hb8 hI6 Kd Hd x0 x1 x2 x3 x4 y0 y1 y2 y3 y4
    have x0 := blk_cell (blk_below A1.out BQ_6.out) 0
    have x1 := blk_cell (blk_below A1.out BQ_6.out) 1
    have x2 := blk_cell (blk_below A1.out BQ_6.out) 2
    have y0 := blk_cell X1_6.out 0
    have y1 := blk_cell X1_6.out 1
    have y2 := blk_cell X1_6.out 2
    simp only [List.getElem?_toArray, List.getElem?_cons_zero, List.getElem?_cons_succ] at x0 x1 x2 y0 y1 y2
    go_wp2_with fail
    have Kd : Hid (InAt dw2.drew _ _ _ I) := K1_6.out.below (Below.refl _ _).drew
    have Hd : Hid (InAt dw2.drew b1 b2 b3 I) := HI.out.below (below_then HBq.out BQ_6.out).drew
    go_region_held3 (fun w' => w'.cell? ⟨w.heap.size + 1, 0, none⟩ = some (.slice b1 I.nV d1) ∧ w'.cell? ⟨w.heap.size + 1, 1, none⟩ = some (.slice b2 I.nQ d2) ∧ w'.cell? ⟨w.heap.size + 1, 2, none⟩ = some (.slice b3 I.nR d3) ∧ w'.cell? ⟨cw1.heap.size, 0, none⟩ = some (.slice (some ⟨o1, 0, none⟩) I.nV I.nV) ∧ w'.cell? ⟨cw1.heap.size, 1, none⟩ = some (.slice (some ⟨o2, 0, none⟩) I.nQ I.nQ) ∧ w'.cell? ⟨cw1.heap.size, 2, none⟩ = some (.slice (some ⟨o3, 0, none⟩) I.nR I.nR))
      (first | go_keep | ((repeat' constructor) <;> first | exact cell_keep hb7 (by assumption) | exact cell_keep hb6 (by assumption) | exact cell_keep hb7 (by simp [*]; done) | exact cell_keep hb6 (by simp [*]; done)))
      ((first | (go_at_call 11; refine (Copy.toInst b1 b2 b3 d1 d2 d3 I _ Hd.out m4 m5 m6).mono ?_; rintro e dw3 ⟨e1', e2', e3', rfl, hb6, hI6, -⟩) | (go_at_call 15; refine (Eq.eqInst _ _ _ _ _ _ _ _ _ _ _ _ I _ (Kd.out.below hb6) hI6 m4 m5 m6).mono ?_; rintro e dw4 ⟨rfl, hb7⟩)))
    have hb8 := below_then (below_then ((Below.refl dw2.heap.size dw2).drew) hb6) hb7
    have BQ_7 := Hid.mk (below_then BQ_6.out hb8)
    have K0_7 := Hid.mk (K0_6.out.below hb8)
    have X0_7 := Hid.mk (blk_below X0_6.out hb8)
    have K1_7 := Hid.mk (K1_6.out.below hb8)
    have X1_7 := Hid.mk (blk_below X1_6.out hb8)
    have K2_7 := Hid.mk (K2_6.out.below hb8)
    have VG_7 := Hid.mk (blk_below VG_6.out hb8)
    clear BQ_6 K0_6 X0_6 K1_6 X1_6 K2_6 VG_6
    clear hb6 hb7 hb8 hI6 Kd Hd x0 x1 x2 y0 y1 y2
    go_wp2_with fail
    refine (toRoute s n t L _ (HL.out.below (below_then HBq.out BQ_7.out)) hn).mono ?_
    rintro e dw8 ⟨gm, rfl, hcp, hb⟩
    have K3' := Hid.mk hcp
    have BQ_8 := Hid.mk (below_then BQ_7.out hb)
    have K0_8 := Hid.mk (K0_7.out.below hb)
    have X0_8 := Hid.mk (blk_below X0_7.out hb)
    have K1_8 := Hid.mk (K1_7.out.below hb)
    have X1_8 := Hid.mk (blk_below X1_7.out hb)
    have K2_8 := Hid.mk (K2_7.out.below hb)
    have VG_8 := Hid.mk (blk_below VG_7.out hb)
    clear BQ_7 K0_7 X0_7 K1_7 X1_7 K2_7 VG_7
    clear hb hcp
    go_wp2_with fail
    refine (Eq.eqInt64S _ _ n n n L _ K2_8.out K3'.out hn).mono ?_
    rintro e dw9 ⟨rfl, hb⟩
    have HY := Hid.mk (below_then (below_then HBq.out BQ_8.out) hb)
    clear hb
    go_wp2
    go_ret
    exact ⟨rfl, HY.out⟩
end Go.Proofs.YtgooegcmgejfpaaGreatDoor.LawRun
