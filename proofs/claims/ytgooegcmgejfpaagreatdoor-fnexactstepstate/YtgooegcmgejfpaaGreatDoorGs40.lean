import Derived.Test.YtgooegcmgejfpaaGreatDoorGs39
import Derived.Deep.DrawnRows
namespace Go.Proofs.YtgooegcmgejfpaaGreatDoor.Mac
open Go Go.RowKit Go.Proofs.YtgooegcmgejfpaaGreatDoor.Mem Go.Proofs.YtgooegcmgejfpaaGreatDoor.Travel
set_option linter.unusedVariables false
set_option linter.unusedSimpArgs false
attribute [local go_sem ↓] Go.wp_at_zero Go.wp_at_succ

/-- What a frame answers at its end. -/
def verd (p u : Int) : Int × Int × Int := if u = -1 then (1, 0, 0) else (2, p, u)
set_option maxHeartbeats 4000000 in
set_option maxRecDepth 100000 in
/-- A frame that runs, at the return. -/
theorem finishI (w0 w : World) (F : Nat) (f : Fr) (r s T : List Int) (mp : Mp) (v : Nat) (h : Fra w0 w F f r s T mp v) (hp : f.p ≤ 4096) :
    Calls Tryz.prog 76 #[.pointer (some ⟨F, 0, none⟩)] w fun e w' => e = .returned (.agg #[.int .i64 (verd (f.p + 1) (homeU mp v f r s T)).1, .int .i64 (verd (f.p + 1) (homeU mp v f r s T)).2.1, .int .i64 (verd (f.p + 1) (homeU mp v f r s T)).2.2]) ∧ Below w0.heap.size w0 w' := by
  have H := Hid.mk h
  have hFl := blk_lt h.ok.hF
  have H1 := Hid.mk (h.below ((Below.refl _ _).alloc (Nat.le_refl _) (.cells #[.int .i64 0, .int .i64 0, .int .i64 0] 59)))
  have y1 := blk_cell h.ok.hF 1
  simp only [frC, mcC, List.getElem?_toArray, List.getElem?_cons_zero, List.getElem?_cons_succ] at y1
  rw [h.u] at y1
  have hVF : Hid (F ≠ w.heap.size) := by unfold Hid; omega
  have hVB : Hid (w0.heap.size ≤ w.heap.size) := h.bel.size
  have hg : Hid (w.heap.size ≠ F ∧ w.heap.size ≠ f.gR ∧ w.heap.size ≠ f.gS) := by
    have a1 := h.lS
    obtain ⟨k0, k1, k2, k3⟩ := StV.co_bd h.co
    have a2 := h.nr
    have a3 := h.ok.nr
    have a4 := lt_of_cell (h.ok.hr 0 (by omega)).1
    exact ⟨by omega, by omega, by omega⟩
  clear h
  go_enter Tryz.func76, Tryz.ntmps76
  go_wp2_with fail
  clear y1
  refine (goHomeI w0 _ F f r s T mp v H1.out hp).mono ?_
  rintro e w1 ⟨⟨vv, rfl⟩, ht, cs, hF, hc0, hc1⟩
  have AV := Hid.mk (ht.blk (blk_new w (.cells #[.int .i64 0, .int .i64 0, .int .i64 0] 59)) hg.out.1 hg.out.2.1 hg.out.2.2)
  have HBW := Hid.mk (H1.out.bel.trans ht.bel)
  have y0 := (blk_cell hF 0).trans hc0
  have y1 := (blk_cell hF 1).trans hc1
  clear ht hF hc0 hc1 H1
  obtain ⟨U, hUe⟩ : ∃ U, U = homeU mp v f r s T := ⟨_, rfl⟩
  rw [← hUe] at y1
  have HUE := Hid.mk hUe
  clear hUe
  have v0 := blk_cell AV.out 0
  have v1 := blk_cell AV.out 1
  have v2 := blk_cell AV.out 2
  have u0 := blk_unfrozen AV.out 0
  have u1 := blk_unfrozen AV.out 1
  have u2 := blk_unfrozen AV.out 2
  simp only [List.getElem?_toArray, List.getElem?_cons_zero, List.getElem?_cons_succ] at v0 v1 v2
  by_cases hU : U = -1
  · rw [hU] at y1 HUE
    clear hU
    have hE : Hid (verd (f.p + 1) (homeU mp v f r s T) = (1, 0, 0)) := by unfold Hid verd; rw [← HUE.out, if_pos rfl]
    go_wp2
    refine bodyPost_ret (results_cell_row Tryz.results76 _ _ w.heap.size _ _ _ _ (by simp [Act.put]) (vsetI AV.out _ _ _) Tryz.underlying59 rfl infoVdI) rfl ?_
    exact ⟨by rw [hE.out], vbelI HBW.out hVB.out _ _ _⟩
  · have hE : Hid (verd (f.p + 1) (homeU mp v f r s T) = (2, f.p + 1, U)) := by unfold Hid verd; rw [← HUE.out, if_neg hU]
    have e1 : (U != -1) = true := by simp [hU]
    clear hU
    go_upto_region 4 with fail
    have HS4 := Hid.mk (And.intro y0 y1)
    have AV := Hid.mk (mblk_drew AV.out)
    have HBW := Hid.mk HBW.out.drew
    clear y0 y1 v0 v1 v2 u0 u1 u2
    refine wp_region_held_drew (S := (fun w' => w'.cell? ⟨F, 0, none⟩ = some (.int .i64 (f.p + 1)) ∧ w'.cell? ⟨F, 1, none⟩ = some (.int .i64 U))) (by kernel_rfl) ?_ (fun hHeld => ?_)
    · exact HS4.out
    refine wpAnyH_take (i := 0) (v := ?_) rfl (by kernel_rfl) (by kernel_rfl) (by kernel_rfl) (fun _ _ _ h => h) (Or.inl ⟨by rfl, ?_⟩) (by assumption) ?_
    rotate_left
    · intro w hSw; (try dsimp only at hSw); go_simp; (try with_reducible rfl)
    rotate_left
    simp only [Act.put, List.setIfInBounds_toArray, List.set_cons_zero, List.set_cons_succ, List.getElem_toArray, List.getElem_cons_zero, List.getElem_cons_succ]
    refine wpAnyH_take (i := 1) (v := ?_) rfl (by kernel_rfl) (by kernel_rfl) (by kernel_rfl) (fun _ _ _ h => h) (Or.inl ⟨by rfl, ?_⟩) (by assumption) ?_
    rotate_left
    · intro w hSw; (try dsimp only at hSw); go_simp; (try with_reducible rfl)
    rotate_left
    simp only [Act.put, List.setIfInBounds_toArray, List.set_cons_zero, List.set_cons_succ, List.getElem_toArray, List.getElem_cons_zero, List.getElem_cons_succ]
    refine wpAnyH_take (i := 2) (v := ?_) rfl (by kernel_rfl) (by kernel_rfl) (by kernel_rfl) (fun _ _ _ h => h) (Or.inl ⟨by rfl, ?_⟩) (by assumption) ?_
    rotate_left
    · intro w hSw; (try dsimp only at hSw); go_simp; (try with_reducible rfl)
    rotate_left
    simp only [Act.put, List.setIfInBounds_toArray, List.set_cons_zero, List.set_cons_succ, List.getElem_toArray, List.getElem_cons_zero, List.getElem_cons_succ]
    refine wpAnyH_take (i := 3) (v := ?_) rfl (by kernel_rfl) (by kernel_rfl) (by kernel_rfl) (fun _ _ _ h => h) (Or.inl ⟨by rfl, ?_⟩) (by assumption) ?_
    rotate_left
    · intro w hSw; (try dsimp only at hSw); go_simp; (try with_reducible rfl)
    rotate_left
    simp only [Act.put, List.setIfInBounds_toArray, List.set_cons_zero, List.set_cons_succ, List.getElem_toArray, List.getElem_cons_zero, List.getElem_cons_succ]
    refine wpAnyH_take (i := 4) (v := ?_) rfl (by kernel_rfl) (by kernel_rfl) (by kernel_rfl) (fun _ _ _ h => h) (Or.inl ⟨by rfl, ?_⟩) (by assumption) ?_
    rotate_left
    · intro w hSw; (try dsimp only at hSw); go_simp; (try with_reducible rfl)
    rotate_left
    simp only [Act.put, List.setIfInBounds_toArray, List.set_cons_zero, List.set_cons_succ, List.getElem_toArray, List.getElem_cons_zero, List.getElem_cons_succ]
    refine wpAnyH_take (i := 5) (v := ?_) rfl (by kernel_rfl) (by kernel_rfl) (by kernel_rfl) (fun _ _ _ h => h) (Or.inl ⟨by rfl, ?_⟩) (by assumption) ?_
    rotate_left
    · intro w hSw; (try dsimp only at hSw); go_simp; (try with_reducible rfl)
    rotate_left
    simp only [Act.put, List.setIfInBounds_toArray, List.set_cons_zero, List.set_cons_succ, List.getElem_toArray, List.getElem_cons_zero, List.getElem_cons_succ]
    refine wpAnyH_take (i := 6) (v := ?_) rfl (by kernel_rfl) (by kernel_rfl) (by kernel_rfl) (fun _ _ _ h => h) (Or.inl ⟨by rfl, ?_⟩) (by assumption) ?_
    rotate_left
    · intro w hSw; (try dsimp only at hSw); go_simp; (try with_reducible rfl)
    rotate_left
    simp only [Act.put, List.setIfInBounds_toArray, List.set_cons_zero, List.set_cons_succ, List.getElem_toArray, List.getElem_cons_zero, List.getElem_cons_succ]
    refine wpAnyH_take (i := 7) (v := ?_) rfl (by kernel_rfl) (by kernel_rfl) (by kernel_rfl) (fun _ _ _ h => h) (Or.inl ⟨by rfl, ?_⟩) (by assumption) ?_
    rotate_left
    · intro w hSw; (try dsimp only at hSw); go_simp; (try with_reducible rfl)
    rotate_left
    simp only [Act.put, List.setIfInBounds_toArray, List.set_cons_zero, List.set_cons_succ, List.getElem_toArray, List.getElem_cons_zero, List.getElem_cons_succ]
    refine wpAnyH_take (i := 8) (v := ?_) rfl (by kernel_rfl) (by kernel_rfl) (by kernel_rfl) (fun _ _ _ h => h) (Or.inl ⟨by rfl, ?_⟩) (by assumption) ?_
    rotate_left
    · intro w hSw; (try dsimp only at hSw); go_simp; (try with_reducible rfl)
    rotate_left
    simp only [Act.put, List.setIfInBounds_toArray, List.set_cons_zero, List.set_cons_succ, List.getElem_toArray, List.getElem_cons_zero, List.getElem_cons_succ]
    refine wpAnyH_take (i := 9) (v := ?_) rfl (by kernel_rfl) (by kernel_rfl) (by kernel_rfl) (fun _ _ _ h => h) (Or.inl ⟨by rfl, ?_⟩) (by assumption) ?_
    rotate_left
    · intro w hSw; (try dsimp only at hSw); go_simp; (try with_reducible rfl)
    rotate_left
    simp only [Act.put, List.setIfInBounds_toArray, List.set_cons_zero, List.set_cons_succ, List.getElem_toArray, List.getElem_cons_zero, List.getElem_cons_succ]
    refine wpAnyH_ready (rs := [10]) (by kernel_rfl) (by simp) ?_
    refine AllReadyH.cons rfl (fun K hK => ?_) ?_
    · go_simp
      refine (rejectedI (f.p + 1) U _).mono ?_
      rintro e w9 ⟨rfl, hb⟩
      have AV := Hid.mk (blk_below AV.out hb)
      have HBW := Hid.mk (below_then HBW.out hb)
      refine hK.out _ _ ?_ (fun hHeld => ?_)
      · exact ⟨cell_keep hb hHeld.1, cell_keep hb hHeld.2⟩
      clear hK K
      (try simp only [Act.put, List.setIfInBounds_toArray, List.set_cons_zero, List.set_cons_succ, List.getElem_toArray, List.getElem_cons_zero, List.getElem_cons_succ])
      refine wpAnyH_ready (rs := [11]) (by kernel_rfl) (by simp) ?_
      refine AllReadyH.cons rfl (fun K hK => ?_) ?_
      · rw [if_pos (by rfl)]
        refine wp_store_row _ _ _ rfl _ #[.int .i64 2, .int .i64 (f.p + 1), .int .i64 U] rfl rfl _ _ AV.out infoVdI rfl (by simp [Value.oneCell']) ?_
        refine hK.out _ _ ?_ (fun hHeld => ?_)
        · exact ⟨mcell_srow hHeld.1 hVF.out, mcell_srow hHeld.2 hVF.out⟩
        clear hK K
        (try simp only [Act.put, List.setIfInBounds_toArray, List.set_cons_zero, List.set_cons_succ, List.getElem_toArray, List.getElem_cons_zero, List.getElem_cons_succ])
        refine wpAnyH_done (by kernel_rfl) ?_ _
        go_wp2
        refine bodyPost_ret (results_cell_row Tryz.results76 _ _ _ _ _ _ _ (by simp [Act.put]) (row_self AV.out _) Tryz.underlying59 rfl infoVdI) rfl ?_
        exact ⟨by rw [hE.out], row_below HBW.out hVB.out _⟩
      exact AllReadyH.nil
    exact AllReadyH.nil

set_option maxHeartbeats 4000000 in
set_option maxRecDepth 100000 in
/-- A frame that has failed, at the return. -/
theorem finishF (w0 w : World) (F : Nat) (p U : Int) (cs : Array Value) (hF : w.heap[F]? = some (.cells cs 93)) (hc0 : cs[0]? = some (.int .i64 p)) (hc1 : cs[1]? = some (.int .i64 U)) (hU : U ≠ -1) (hbel : Below w0.heap.size w0 w) :
    Calls Tryz.prog 76 #[.pointer (some ⟨F, 0, none⟩)] w fun e w' => e = .returned (.agg #[.int .i64 (verd p U).1, .int .i64 (verd p U).2.1, .int .i64 (verd p U).2.2]) ∧ Below w0.heap.size w0 w' := by
  have hFl := blk_lt hF
  have hVF : Hid (F ≠ w.heap.size) := by unfold Hid; omega
  have hVB : Hid (w0.heap.size ≤ w.heap.size) := hbel.size
  have HBW := Hid.mk (hbel.alloc hbel.size (.cells #[.int .i64 0, .int .i64 0, .int .i64 0] 59))
  have AV := Hid.mk (blk_new w (.cells #[.int .i64 0, .int .i64 0, .int .i64 0] 59))
  have hF' := blk_alloc hF (.cells #[.int .i64 0, .int .i64 0, .int .i64 0] 59)
  have y0 := (blk_cell hF' 0).trans hc0
  have y1 := (blk_cell hF' 1).trans hc1
  have x1 := (blk_cell hF 1).trans hc1
  clear hF hc0 hc1 hF' hbel
  have hE : Hid (verd p U = (2, p, U)) := by unfold Hid verd; rw [if_neg hU]
  have e1 : (U != -1) = true := by simp [hU]
  have e2 : (U == -1) = false := by simp [hU]
  clear hU
  have v0 := blk_cell AV.out 0
  have v1 := blk_cell AV.out 1
  have v2 := blk_cell AV.out 2
  have u0 := blk_unfrozen AV.out 0
  have u1 := blk_unfrozen AV.out 1
  have u2 := blk_unfrozen AV.out 2
  simp only [List.getElem?_toArray, List.getElem?_cons_zero, List.getElem?_cons_succ] at v0 v1 v2
  go_enter Tryz.func76, Tryz.ntmps76
  go_upto_region 4 with fail
  have HS4 := Hid.mk (And.intro y0 y1)
  have AV := Hid.mk (mblk_drew AV.out)
  have HBW := Hid.mk HBW.out.drew
  clear y0 y1 v0 v1 v2 u0 u1 u2
  refine wp_region_held_drew (S := (fun w' => w'.cell? ⟨F, 0, none⟩ = some (.int .i64 p) ∧ w'.cell? ⟨F, 1, none⟩ = some (.int .i64 U))) (by kernel_rfl) ?_ (fun hHeld => ?_)
  · exact HS4.out
  refine wpAnyH_take (i := 0) (v := ?_) rfl (by kernel_rfl) (by kernel_rfl) (by kernel_rfl) (fun _ _ _ h => h) (Or.inl ⟨by rfl, ?_⟩) (by assumption) ?_
  rotate_left
  · intro w hSw; (try dsimp only at hSw); go_simp; (try with_reducible rfl)
  rotate_left
  simp only [Act.put, List.setIfInBounds_toArray, List.set_cons_zero, List.set_cons_succ, List.getElem_toArray, List.getElem_cons_zero, List.getElem_cons_succ]
  refine wpAnyH_take (i := 1) (v := ?_) rfl (by kernel_rfl) (by kernel_rfl) (by kernel_rfl) (fun _ _ _ h => h) (Or.inl ⟨by rfl, ?_⟩) (by assumption) ?_
  rotate_left
  · intro w hSw; (try dsimp only at hSw); go_simp; (try with_reducible rfl)
  rotate_left
  simp only [Act.put, List.setIfInBounds_toArray, List.set_cons_zero, List.set_cons_succ, List.getElem_toArray, List.getElem_cons_zero, List.getElem_cons_succ]
  refine wpAnyH_take (i := 2) (v := ?_) rfl (by kernel_rfl) (by kernel_rfl) (by kernel_rfl) (fun _ _ _ h => h) (Or.inl ⟨by rfl, ?_⟩) (by assumption) ?_
  rotate_left
  · intro w hSw; (try dsimp only at hSw); go_simp; (try with_reducible rfl)
  rotate_left
  simp only [Act.put, List.setIfInBounds_toArray, List.set_cons_zero, List.set_cons_succ, List.getElem_toArray, List.getElem_cons_zero, List.getElem_cons_succ]
  refine wpAnyH_take (i := 3) (v := ?_) rfl (by kernel_rfl) (by kernel_rfl) (by kernel_rfl) (fun _ _ _ h => h) (Or.inl ⟨by rfl, ?_⟩) (by assumption) ?_
  rotate_left
  · intro w hSw; (try dsimp only at hSw); go_simp; (try with_reducible rfl)
  rotate_left
  simp only [Act.put, List.setIfInBounds_toArray, List.set_cons_zero, List.set_cons_succ, List.getElem_toArray, List.getElem_cons_zero, List.getElem_cons_succ]
  refine wpAnyH_take (i := 4) (v := ?_) rfl (by kernel_rfl) (by kernel_rfl) (by kernel_rfl) (fun _ _ _ h => h) (Or.inl ⟨by rfl, ?_⟩) (by assumption) ?_
  rotate_left
  · intro w hSw; (try dsimp only at hSw); go_simp; (try with_reducible rfl)
  rotate_left
  simp only [Act.put, List.setIfInBounds_toArray, List.set_cons_zero, List.set_cons_succ, List.getElem_toArray, List.getElem_cons_zero, List.getElem_cons_succ]
  refine wpAnyH_take (i := 5) (v := ?_) rfl (by kernel_rfl) (by kernel_rfl) (by kernel_rfl) (fun _ _ _ h => h) (Or.inl ⟨by rfl, ?_⟩) (by assumption) ?_
  rotate_left
  · intro w hSw; (try dsimp only at hSw); go_simp; (try with_reducible rfl)
  rotate_left
  simp only [Act.put, List.setIfInBounds_toArray, List.set_cons_zero, List.set_cons_succ, List.getElem_toArray, List.getElem_cons_zero, List.getElem_cons_succ]
  refine wpAnyH_take (i := 6) (v := ?_) rfl (by kernel_rfl) (by kernel_rfl) (by kernel_rfl) (fun _ _ _ h => h) (Or.inl ⟨by rfl, ?_⟩) (by assumption) ?_
  rotate_left
  · intro w hSw; (try dsimp only at hSw); go_simp; (try with_reducible rfl)
  rotate_left
  simp only [Act.put, List.setIfInBounds_toArray, List.set_cons_zero, List.set_cons_succ, List.getElem_toArray, List.getElem_cons_zero, List.getElem_cons_succ]
  refine wpAnyH_take (i := 7) (v := ?_) rfl (by kernel_rfl) (by kernel_rfl) (by kernel_rfl) (fun _ _ _ h => h) (Or.inl ⟨by rfl, ?_⟩) (by assumption) ?_
  rotate_left
  · intro w hSw; (try dsimp only at hSw); go_simp; (try with_reducible rfl)
  rotate_left
  simp only [Act.put, List.setIfInBounds_toArray, List.set_cons_zero, List.set_cons_succ, List.getElem_toArray, List.getElem_cons_zero, List.getElem_cons_succ]
  refine wpAnyH_take (i := 8) (v := ?_) rfl (by kernel_rfl) (by kernel_rfl) (by kernel_rfl) (fun _ _ _ h => h) (Or.inl ⟨by rfl, ?_⟩) (by assumption) ?_
  rotate_left
  · intro w hSw; (try dsimp only at hSw); go_simp; (try with_reducible rfl)
  rotate_left
  simp only [Act.put, List.setIfInBounds_toArray, List.set_cons_zero, List.set_cons_succ, List.getElem_toArray, List.getElem_cons_zero, List.getElem_cons_succ]
  refine wpAnyH_take (i := 9) (v := ?_) rfl (by kernel_rfl) (by kernel_rfl) (by kernel_rfl) (fun _ _ _ h => h) (Or.inl ⟨by rfl, ?_⟩) (by assumption) ?_
  rotate_left
  · intro w hSw; (try dsimp only at hSw); go_simp; (try with_reducible rfl)
  rotate_left
  simp only [Act.put, List.setIfInBounds_toArray, List.set_cons_zero, List.set_cons_succ, List.getElem_toArray, List.getElem_cons_zero, List.getElem_cons_succ]
  refine wpAnyH_ready (rs := [10]) (by kernel_rfl) (by simp) ?_
  refine AllReadyH.cons rfl (fun K hK => ?_) ?_
  · go_simp
    refine (rejectedI p U _).mono ?_
    rintro e w9 ⟨rfl, hb⟩
    have AV := Hid.mk (blk_below AV.out hb)
    have HBW := Hid.mk (below_then HBW.out hb)
    refine hK.out _ _ ?_ (fun hHeld => ?_)
    · exact ⟨cell_keep hb hHeld.1, cell_keep hb hHeld.2⟩
    clear hK K
    (try simp only [Act.put, List.setIfInBounds_toArray, List.set_cons_zero, List.set_cons_succ, List.getElem_toArray, List.getElem_cons_zero, List.getElem_cons_succ])
    refine wpAnyH_ready (rs := [11]) (by kernel_rfl) (by simp) ?_
    refine AllReadyH.cons rfl (fun K hK => ?_) ?_
    · rw [if_pos (by rfl)]
      refine wp_store_row _ _ _ rfl _ #[.int .i64 2, .int .i64 p, .int .i64 U] rfl rfl _ _ AV.out infoVdI rfl (by simp [Value.oneCell']) ?_
      refine hK.out _ _ ?_ (fun hHeld => ?_)
      · exact ⟨mcell_srow hHeld.1 hVF.out, mcell_srow hHeld.2 hVF.out⟩
      clear hK K
      (try simp only [Act.put, List.setIfInBounds_toArray, List.set_cons_zero, List.set_cons_succ, List.getElem_toArray, List.getElem_cons_zero, List.getElem_cons_succ])
      refine wpAnyH_done (by kernel_rfl) ?_ _
      go_wp2
      refine bodyPost_ret (results_cell_row Tryz.results76 _ _ _ _ _ _ _ (by simp [Act.put]) (row_self AV.out _) Tryz.underlying59 rfl infoVdI) rfl ?_
      exact ⟨by rw [hE.out], row_below HBW.out hVB.out _⟩
    exact AllReadyH.nil
  exact AllReadyH.nil
end Go.Proofs.YtgooegcmgejfpaaGreatDoor.Mac
