import Derived.Test.YtgooegcmgejfpaaGreatDoorGr35
import Derived.Deep.DrawnRows
import Derived.Test.YtgooegcmgejfpaaGreatDoorGr28
namespace Go.Proofs.YtgooegcmgejfpaaGreatDoor.Mac
open Go Go.RowKit Go.Proofs.YtgooegcmgejfpaaGreatDoor.Mem Go.Proofs.YtgooegcmgejfpaaGreatDoor.Travel
set_option linter.unusedVariables false
set_option linter.unusedSimpArgs false
attribute [local go_sem ↓] Go.wp_at_zero Go.wp_at_succ

/-- What a frame answers at its end. -/
def verd (p u : Int) : Int × Int × Int := if u = -1 then (1, 0, 0) else (2, p, u)
set_option maxHeartbeats 4000000 in
set_option maxRecDepth 100000 in
/-- A frame that runs, at the return. -/
theorem finishI (w0 w : World) (F : Nat) (f : Fr) (r s T : List Int) (mp : Mp) (v : Nat) (h : Fra w0 w F f r s T mp v) (hp : f.p ≤ 4096) :
    Calls Tryz.prog 76 #[.pointer (some ⟨F, 0, none⟩)] w fun e w' => e = .returned (.agg #[.int .i64 (verd (f.p + 1) (homeU mp v f r s T)).1, .int .i64 (verd (f.p + 1) (homeU mp v f r s T)).2.1, .int .i64 (verd (f.p + 1) (homeU mp v f r s T)).2.2]) ∧ Below w0.heap.size w0 w' := by
  have H := Hid.mk h
  have hFl := blk_lt h.ok.hF
  have H1 := Hid.mk (h.below ((Below.refl _ _).alloc (Nat.le_refl _) (.cells #[.int .i64 0, .int .i64 0, .int .i64 0] 59)))
  have y1 := blk_cell h.ok.hF 1
  simp only [frC, mcC, List.getElem?_toArray, List.getElem?_cons_zero, List.getElem?_cons_succ] at y1
  rw [h.u] at y1
  have hVF : Hid (F ≠ w.heap.size) := by unfold Hid; omega
  have hVB : Hid (w0.heap.size ≤ w.heap.size) := h.bel.size
  have hg : Hid (w.heap.size ≠ F ∧ w.heap.size ≠ f.gR ∧ w.heap.size ≠ f.gS) := by
    have a1 := h.lS
    obtain ⟨k0, k1, k2, k3⟩ := StV.co_bd h.co
    have a2 := h.nr
    have a3 := h.ok.nr
    have a4 := lt_of_cell (h.ok.hr 0 (by omega)).1
    exact ⟨by omega, by omega, by omega⟩
  clear h
  go_enter Tryz.func76, Tryz.ntmps76
  go_wp2_with fail
  clear y1
  refine (goHomeI w0 _ F f r s T mp v H1.out hp).mono ?_
  rintro e w1 ⟨⟨vv, rfl⟩, ht, cs, hF, hc0, hc1⟩
  have AV := Hid.mk (ht.blk (blk_new w (.cells #[.int .i64 0, .int .i64 0, .int .i64 0] 59)) hg.out.1 hg.out.2.1 hg.out.2.2)
  have HBW := Hid.mk (H1.out.bel.trans ht.bel)
  have y0 := (blk_cell hF 0).trans hc0
  have y1 := (blk_cell hF 1).trans hc1
  clear ht hF hc0 hc1 H1
  obtain ⟨U, hUe⟩ : ∃ U, U = homeU mp v f r s T := ⟨_, rfl⟩
  rw [← hUe] at y1
  have HUE := Hid.mk hUe
  clear hUe
  have v0 := blk_cell AV.out 0
  have v1 := blk_cell AV.out 1
  have v2 := blk_cell AV.out 2
  have u0 := blk_unfrozen AV.out 0
  have u1 := blk_unfrozen AV.out 1
  have u2 := blk_unfrozen AV.out 2
  simp only [List.getElem?_toArray, List.getElem?_cons_zero, List.getElem?_cons_succ] at v0 v1 v2
  by_cases hU : U = -1
  · rw [hU] at y1 HUE
    clear hU
    have hE : Hid (verd (f.p + 1) (homeU mp v f r s T) = (1, 0, 0)) := by unfold Hid verd; rw [← HUE.out, if_pos rfl]
    go_wp2
    refine bodyPost_ret (results_cell_row Tryz.results76 _ _ w.heap.size _ _ _ _ (by simp [Act.put]) (vsetI AV.out _ _ _) Tryz.underlying59 rfl infoVdI) rfl ?_
    exact ⟨by rw [hE.out], vbelI HBW.out hVB.out _ _ _⟩
  · have hE : Hid (verd (f.p + 1) (homeU mp v f r s T) = (2, f.p + 1, U)) := by unfold Hid verd; rw [← HUE.out, if_neg hU]
    have e1 : (U != -1) = true := by simp [hU]
    clear hU
    go_upto_region 4 with fail
    have HS4 := Hid.mk (And.intro y0 y1)
    have AV := Hid.mk (mblk_drew AV.out)
    have HBW := Hid.mk HBW.out.drew
    clear y0 y1 v0 v1 v2 u0 u1 u2
    refine wp_region_held_drew (S := (fun w' => w'.cell? ⟨F, 0, none⟩ = some (.int .i64 (f.p + 1)) ∧ w'.cell? ⟨F, 1, none⟩ = some (.int .i64 U))) (by kernel_rfl) ?_ (fun hHeld => ?_)
    · exact HS4.out
    refine wpAnyH_take (i := 0) (v := ?_) rfl (by kernel_rfl) (by kernel_rfl) (by kernel_rfl) (fun _ _ _ h => h) (Or.inl ⟨by rfl, ?_⟩) (by assumption) ?_
    rotate_left
    · intro w hSw; (try dsimp only at hSw); go_simp; (try with_reducible rfl)
    rotate_left
    simp only [Act.put, List.setIfInBounds_toArray, List.set_cons_zero, List.set_cons_succ, List.getElem_toArray, List.getElem_cons_zero, List.getElem_cons_succ]
    refine wpAnyH_take (i := 1) (v := ?_) rfl (by kernel_rfl) (by kernel_rfl) (by kernel_rfl) (fun _ _ _ h => h) (Or.inl ⟨by rfl, ?_⟩) (by assumption) ?_
    rotate_left
    · intro w hSw; (try dsimp only at hSw); go_simp; (try with_reducible rfl)
    rotate_left
    simp only [Act.put, List.setIfInBounds_toArray, List.set_cons_zero, List.set_cons_succ, List.getElem_toArray, List.getElem_cons_zero, List.getElem_cons_succ]
    refine wpAnyH_take (i := 2) (v := ?_) rfl (by kernel_rfl) (by kernel_rfl) (by kernel_rfl) (fun _ _ _ h => h) (Or.inl ⟨by rfl, ?_⟩) (by assumption) ?_
    rotate_left
    · intro w hSw; (try dsimp only at hSw); go_simp; (try with_reducible rfl)
    rotate_left
    simp only [Act.put, List.setIfInBounds_toArray, List.set_cons_zero, List.set_cons_succ, List.getElem_toArray, List.getElem_cons_zero, List.getElem_cons_succ]
    refine wpAnyH_take (i := 3) (v := ?_) rfl (by kernel_rfl) (by kernel_rfl) (by kernel_rfl) (fun _ _ _ h => h) (Or.inl ⟨by rfl, ?_⟩) (by assumption) ?_
    rotate_left
    · intro w hSw; (try dsimp only at hSw); go_simp; (try with_reducible rfl)
    rotate_left
    simp only [Act.put, List.setIfInBounds_toArray, List.set_cons_zero, List.set_cons_succ, List.getElem_toArray, List.getElem_cons_zero, List.getElem_cons_succ]
    refine wpAnyH_take (i := 4) (v := ?_) rfl (by kernel_rfl) (by kernel_rfl) (by kernel_rfl) (fun _ _ _ h => h) (Or.inl ⟨by rfl, ?_⟩) (by assumption) ?_
    rotate_left
    · intro w hSw; (try dsimp only at hSw); go_simp; (try with_reducible rfl)
    rotate_left
    simp only [Act.put, List.setIfInBounds_toArray, List.set_cons_zero, List.set_cons_succ, List.getElem_toArray, List.getElem_cons_zero, List.getElem_cons_succ]
    refine wpAnyH_take (i := 5) (v := ?_) rfl (by kernel_rfl) (by kernel_rfl) (by kernel_rfl) (fun _ _ _ h => h) (Or.inl ⟨by rfl, ?_⟩) (by assumption) ?_
    rotate_left
    · intro w hSw; (try dsimp only at hSw); go_simp; (try with_reducible rfl)
    rotate_left
    simp only [Act.put, List.setIfInBounds_toArray, List.set_cons_zero, List.set_cons_succ, List.getElem_toArray, List.getElem_cons_zero, List.getElem_cons_succ]
    refine wpAnyH_take (i := 6) (v := ?_) rfl (by kernel_rfl) (by kernel_rfl) (by kernel_rfl) (fun _ _ _ h => h) (Or.inl ⟨by rfl, ?_⟩) (by assumption) ?_
    rotate_left
    · intro w hSw; (try dsimp only at hSw); go_simp; (try with_reducible rfl)
    rotate_left
    simp only [Act.put, List.setIfInBounds_toArray, List.set_cons_zero, List.set_cons_succ, List.getElem_toArray, List.getElem_cons_zero, List.getElem_cons_succ]
    refine wpAnyH_take (i := 7) (v := ?_) rfl (by kernel_rfl) (by kernel_rfl) (by kernel_rfl) (fun _ _ _ h => h) (Or.inl ⟨by rfl, ?_⟩) (by assumption) ?_
    rotate_left
    · intro w hSw; (try dsimp only at hSw); go_simp; (try with_reducible rfl)
    rotate_left
    simp only [Act.put, List.setIfInBounds_toArray, List.set_cons_zero, List.set_cons_succ, List.getElem_toArray, List.getElem_cons_zero, List.getElem_cons_succ]
    refine wpAnyH_take (i := 8) (v := ?_) rfl (by kernel_rfl) (by kernel_rfl) (by kernel_rfl) (fun _ _ _ h => h) (Or.inl ⟨by rfl, ?_⟩) (by assumption) ?_
    rotate_left
    · intro w hSw; (try dsimp only at hSw); go_simp; (try with_reducible rfl)
    rotate_left
    simp only [Act.put, List.setIfInBounds_toArray, List.set_cons_zero, List.set_cons_succ, List.getElem_toArray, List.getElem_cons_zero, List.getElem_cons_succ]
    refine wpAnyH_take (i := 9) (v := ?_) rfl (by kernel_rfl) (by kernel_rfl) (by kernel_rfl) (fun _ _ _ h => h) (Or.inl ⟨by rfl, ?_⟩) (by assumption) ?_
    rotate_left
    · intro w hSw; (try dsimp only at hSw); go_simp; (try with_reducible rfl)
    rotate_left
    simp only [Act.put, List.setIfInBounds_toArray, List.set_cons_zero, List.set_cons_succ, List.getElem_toArray, List.getElem_cons_zero, List.getElem_cons_succ]
    refine wpAnyH_ready (rs := [10]) (by kernel_rfl) (by simp) ?_
    refine AllReadyH.cons rfl (fun K hK => ?_) ?_
    · go_simp
      refine (rejectedI (f.p + 1) U _).mono ?_
      rintro e w9 ⟨rfl, hb⟩
      have AV := Hid.mk (blk_below AV.out hb)
      have HBW := Hid.mk (below_then HBW.out hb)
      refine hK.out _ _ ?_ (fun hHeld => ?_)
      · exact ⟨cell_keep hb hHeld.1, cell_keep hb hHeld.2⟩
      clear hK K
      (try simp only [Act.put, List.setIfInBounds_toArray, List.set_cons_zero, List.set_cons_succ, List.getElem_toArray, List.getElem_cons_zero, List.getElem_cons_succ])
      refine wpAnyH_ready (rs := [11]) (by kernel_rfl) (by simp) ?_
      refine AllReadyH.cons rfl (fun K hK => ?_) ?_
      · rw [if_pos (by rfl)]
        refine wp_store_row _ _ _ rfl _ #[.int .i64 2, .int .i64 (f.p + 1), .int .i64 U] rfl rfl _ _ AV.out infoVdI rfl (by simp [Value.oneCell']) ?_
        refine hK.out _ _ ?_ (fun hHeld => ?_)
        · exact ⟨mcell_srow hHeld.1 hVF.out, mcell_srow hHeld.2 hVF.out⟩
        clear hK K
        (try simp only [Act.put, List.setIfInBounds_toArray, List.set_cons_zero, List.set_cons_succ, List.getElem_toArray, List.getElem_cons_zero, List.getElem_cons_succ])
        refine wpAnyH_done (by kernel_rfl) ?_ _
        go_wp2
        refine bodyPost_ret (results_cell_row Tryz.results76 _ _ _ _ _ _ _ (by simp [Act.put]) (row_self AV.out _) Tryz.underlying59 rfl infoVdI) rfl ?_
        exact ⟨by rw [hE.out], row_below HBW.out hVB.out _⟩
      exact AllReadyH.nil
    exact AllReadyH.nil

set_option maxHeartbeats 4000000 in
set_option maxRecDepth 100000 in
/-- A frame that has failed, at the return. -/
theorem finishF (w0 w : World) (F : Nat) (p U : Int) (cs : Array Value) (hF : w.heap[F]? = some (.cells cs 93)) (hc0 : cs[0]? = some (.int .i64 p)) (hc1 : cs[1]? = some (.int .i64 U)) (hU : U ≠ -1) (hbel : Below w0.heap.size w0 w) :
    Calls Tryz.prog 76 #[.pointer (some ⟨F, 0, none⟩)] w fun e w' => e = .returned (.agg #[.int .i64 (verd p U).1, .int .i64 (verd p U).2.1, .int .i64 (verd p U).2.2]) ∧ Below w0.heap.size w0 w' := by
  have hFl := blk_lt hF
  have hVF : Hid (F ≠ w.heap.size) := by unfold Hid; omega
  have hVB : Hid (w0.heap.size ≤ w.heap.size) := hbel.size
  have HBW := Hid.mk (hbel.alloc hbel.size (.cells #[.int .i64 0, .int .i64 0, .int .i64 0] 59))
  have AV := Hid.mk (blk_new w (.cells #[.int .i64 0, .int .i64 0, .int .i64 0] 59))
  have hF' := blk_alloc hF (.cells #[.int .i64 0, .int .i64 0, .int .i64 0] 59)
  have y0 := (blk_cell hF' 0).trans hc0
  have y1 := (blk_cell hF' 1).trans hc1
  have x1 := (blk_cell hF 1).trans hc1
  clear hF hc0 hc1 hF' hbel
  have hE : Hid (verd p U = (2, p, U)) := by unfold Hid verd; rw [if_neg hU]
  have e1 : (U != -1) = true := by simp [hU]
  have e2 : (U == -1) = false := by simp [hU]
  clear hU
  have v0 := blk_cell AV.out 0
  have v1 := blk_cell AV.out 1
  have v2 := blk_cell AV.out 2
  have u0 := blk_unfrozen AV.out 0
  have u1 := blk_unfrozen AV.out 1
  have u2 := blk_unfrozen AV.out 2
  simp only [List.getElem?_toArray, List.getElem?_cons_zero, List.getElem?_cons_succ] at v0 v1 v2
  go_enter Tryz.func76, Tryz.ntmps76
  go_upto_region 4 with fail
  have HS4 := Hid.mk (And.intro y0 y1)
  have AV := Hid.mk (mblk_drew AV.out)
  have HBW := Hid.mk HBW.out.drew
  clear y0 y1 v0 v1 v2 u0 u1 u2
  refine wp_region_held_drew (S := (fun w' => w'.cell? ⟨F, 0, none⟩ = some (.int .i64 p) ∧ w'.cell? ⟨F, 1, none⟩ = some (.int .i64 U))) (by kernel_rfl) ?_ (fun hHeld => ?_)
  · exact HS4.out
  refine wpAnyH_take (i := 0) (v := ?_) rfl (by kernel_rfl) (by kernel_rfl) (by kernel_rfl) (fun _ _ _ h => h) (Or.inl ⟨by rfl, ?_⟩) (by assumption) ?_
  rotate_left
  · intro w hSw; (try dsimp only at hSw); go_simp; (try with_reducible rfl)
  rotate_left
  simp only [Act.put, List.setIfInBounds_toArray, List.set_cons_zero, List.set_cons_succ, List.getElem_toArray, List.getElem_cons_zero, List.getElem_cons_succ]
  refine wpAnyH_take (i := 1) (v := ?_) rfl (by kernel_rfl) (by kernel_rfl) (by kernel_rfl) (fun _ _ _ h => h) (Or.inl ⟨by rfl, ?_⟩) (by assumption) ?_
  rotate_left
  · intro w hSw; (try dsimp only at hSw); go_simp; (try with_reducible rfl)
  rotate_left
  simp only [Act.put, List.setIfInBounds_toArray, List.set_cons_zero, List.set_cons_succ, List.getElem_toArray, List.getElem_cons_zero, List.getElem_cons_succ]
  refine wpAnyH_take (i := 2) (v := ?_) rfl (by kernel_rfl) (by kernel_rfl) (by kernel_rfl) (fun _ _ _ h => h) (Or.inl ⟨by rfl, ?_⟩) (by assumption) ?_
  rotate_left
  · intro w hSw; (try dsimp only at hSw); go_simp; (try with_reducible rfl)
  rotate_left
  simp only [Act.put, List.setIfInBounds_toArray, List.set_cons_zero, List.set_cons_succ, List.getElem_toArray, List.getElem_cons_zero, List.getElem_cons_succ]
  refine wpAnyH_take (i := 3) (v := ?_) rfl (by kernel_rfl) (by kernel_rfl) (by kernel_rfl) (fun _ _ _ h => h) (Or.inl ⟨by rfl, ?_⟩) (by assumption) ?_
  rotate_left
  · intro w hSw; (try dsimp only at hSw); go_simp; (try with_reducible rfl)
  rotate_left
  simp only [Act.put, List.setIfInBounds_toArray, List.set_cons_zero, List.set_cons_succ, List.getElem_toArray, List.getElem_cons_zero, List.getElem_cons_succ]
  refine wpAnyH_take (i := 4) (v := ?_) rfl (by kernel_rfl) (by kernel_rfl) (by kernel_rfl) (fun _ _ _ h => h) (Or.inl ⟨by rfl, ?_⟩) (by assumption) ?_
  rotate_left
  · intro w hSw; (try dsimp only at hSw); go_simp; (try with_reducible rfl)
  rotate_left
  simp only [Act.put, List.setIfInBounds_toArray, List.set_cons_zero, List.set_cons_succ, List.getElem_toArray, List.getElem_cons_zero, List.getElem_cons_succ]
  refine wpAnyH_take (i := 5) (v := ?_) rfl (by kernel_rfl) (by kernel_rfl) (by kernel_rfl) (fun _ _ _ h => h) (Or.inl ⟨by rfl, ?_⟩) (by assumption) ?_
  rotate_left
  · intro w hSw; (try dsimp only at hSw); go_simp; (try with_reducible rfl)
  rotate_left
  simp only [Act.put, List.setIfInBounds_toArray, List.set_cons_zero, List.set_cons_succ, List.getElem_toArray, List.getElem_cons_zero, List.getElem_cons_succ]
  refine wpAnyH_take (i := 6) (v := ?_) rfl (by kernel_rfl) (by kernel_rfl) (by kernel_rfl) (fun _ _ _ h => h) (Or.inl ⟨by rfl, ?_⟩) (by assumption) ?_
  rotate_left
  · intro w hSw; (try dsimp only at hSw); go_simp; (try with_reducible rfl)
  rotate_left
  simp only [Act.put, List.setIfInBounds_toArray, List.set_cons_zero, List.set_cons_succ, List.getElem_toArray, List.getElem_cons_zero, List.getElem_cons_succ]
  refine wpAnyH_take (i := 7) (v := ?_) rfl (by kernel_rfl) (by kernel_rfl) (by kernel_rfl) (fun _ _ _ h => h) (Or.inl ⟨by rfl, ?_⟩) (by assumption) ?_
  rotate_left
  · intro w hSw; (try dsimp only at hSw); go_simp; (try with_reducible rfl)
  rotate_left
  simp only [Act.put, List.setIfInBounds_toArray, List.set_cons_zero, List.set_cons_succ, List.getElem_toArray, List.getElem_cons_zero, List.getElem_cons_succ]
  refine wpAnyH_take (i := 8) (v := ?_) rfl (by kernel_rfl) (by kernel_rfl) (by kernel_rfl) (fun _ _ _ h => h) (Or.inl ⟨by rfl, ?_⟩) (by assumption) ?_
  rotate_left
  · intro w hSw; (try dsimp only at hSw); go_simp; (try with_reducible rfl)
  rotate_left
  simp only [Act.put, List.setIfInBounds_toArray, List.set_cons_zero, List.set_cons_succ, List.getElem_toArray, List.getElem_cons_zero, List.getElem_cons_succ]
  refine wpAnyH_take (i := 9) (v := ?_) rfl (by kernel_rfl) (by kernel_rfl) (by kernel_rfl) (fun _ _ _ h => h) (Or.inl ⟨by rfl, ?_⟩) (by assumption) ?_
  rotate_left
  · intro w hSw; (try dsimp only at hSw); go_simp; (try with_reducible rfl)
  rotate_left
  simp only [Act.put, List.setIfInBounds_toArray, List.set_cons_zero, List.set_cons_succ, List.getElem_toArray, List.getElem_cons_zero, List.getElem_cons_succ]
  refine wpAnyH_ready (rs := [10]) (by kernel_rfl) (by simp) ?_
  refine AllReadyH.cons rfl (fun K hK => ?_) ?_
  · go_simp
    refine (rejectedI p U _).mono ?_
    rintro e w9 ⟨rfl, hb⟩
    have AV := Hid.mk (blk_below AV.out hb)
    have HBW := Hid.mk (below_then HBW.out hb)
    refine hK.out _ _ ?_ (fun hHeld => ?_)
    · exact ⟨cell_keep hb hHeld.1, cell_keep hb hHeld.2⟩
    clear hK K
    (try simp only [Act.put, List.setIfInBounds_toArray, List.set_cons_zero, List.set_cons_succ, List.getElem_toArray, List.getElem_cons_zero, List.getElem_cons_succ])
    refine wpAnyH_ready (rs := [11]) (by kernel_rfl) (by simp) ?_
    refine AllReadyH.cons rfl (fun K hK => ?_) ?_
    · rw [if_pos (by rfl)]
      refine wp_store_row _ _ _ rfl _ #[.int .i64 2, .int .i64 p, .int .i64 U] rfl rfl _ _ AV.out infoVdI rfl (by simp [Value.oneCell']) ?_
      refine hK.out _ _ ?_ (fun hHeld => ?_)
      · exact ⟨mcell_srow hHeld.1 hVF.out, mcell_srow hHeld.2 hVF.out⟩
      clear hK K
      (try simp only [Act.put, List.setIfInBounds_toArray, List.set_cons_zero, List.set_cons_succ, List.getElem_toArray, List.getElem_cons_zero, List.getElem_cons_succ])
      refine wpAnyH_done (by kernel_rfl) ?_ _
      go_wp2
      refine bodyPost_ret (results_cell_row Tryz.results76 _ _ _ _ _ _ _ (by simp [Act.put]) (row_self AV.out _) Tryz.underlying59 rfl infoVdI) rfl ?_
      exact ⟨by rw [hE.out], row_below HBW.out hVB.out _⟩
    exact AllReadyH.nil
  exact AllReadyH.nil
end Go.Proofs.YtgooegcmgejfpaaGreatDoor.Mac
namespace Go.Proofs.YtgooegcmgejfpaaGreatDoor.Mac
open Go Go.RowKit Go.Proofs.YtgooegcmgejfpaaGreatDoor.Mem Go.Proofs.YtgooegcmgejfpaaGreatDoor.Travel
open Go.Proofs.YtgooegcmgejfpaaGreatDoor.Valid (inB nodes nodes_bd validB ret_bool)
open Go.Proofs.YtgooegcmgejfpaaGreatDoor.StV (stopB okSt deadB failB runB)
set_option linter.unusedVariables false
set_option linter.unusedSimpArgs false

/-- A block ends with no rule, or with a rule's number. -/
theorem exec_u {E : En} {B : Nat → Is} {n : Nat} {R S : Int} (hok : ∀ i, i < n → OkI R S i n (B i)) (f : Nat) : ∀ (k : Nat) (r s : List Int), (exec E B n f k r s).2.2 = -1 ∨ 1 ≤ (exec E B n f k r s).2.2 := by
  induction f with
  | zero => intro k r s; exact Or.inl rfl
  | succ f ih =>
    intro k r s
    rw [exec]
    by_cases hk : n ≤ k
    · rw [if_pos hk]; exact Or.inl rfl
    rw [if_neg hk]
    have h := hok k (by omega)
    split
    · exact ih _ _ _
    · split
      · split <;> exact ih _ _ _
      · split
        · split <;> exact ih _ _ _
        · split
          · rename_i h18
            split
            · exact Or.inr (h.rul h18).1
            · exact ih _ _ _
          · split
            · exact ih _ _ _
            · exact ih _ _ _
theorem nextL_congr {I : In} {v : Nat} {S S' : St} {n : Int} (h1 : S.p = S'.p) (h2 : S.d = S'.d) (h3 : S.t = S'.t) (h4 : S.s = S'.s) (h5 : S.l = S'.l) : nextL I v S n = nextL I v S' n := by
  unfold nextL; rw [h1, h2, h3, h4, h5]
theorem over_next {I : In} {v : Nat} {S : St} {n : Int} {r : List Int} : over r (nextL I v S n) = nextL I v S n ++ r.drop 13 := rfl
theorem anyB_congr {n : Nat} {f g : Nat → Bool} (h : ∀ i, i < n → f i = g i) : anyB n f = anyB n g := by
  unfold anyB; rw [allB_congr (f := fun i => !f i) (g := fun i => !g i) (fun i hi => by rw [h i hi])]
/-- A machine, as machineFor leaves it. -/
structure Mach (w : World) (M : Nat) (mp : Mp) (C : Co) (I : In) (v : Int) : Prop where
  hM : w.heap[M]? = some (.cells (mcC mp) 153)
  hB : ∃ B, Boxes w B mp.k5 mp.k6 mp.k7 mp.k8 mp.k9 mp.k10 mp.k11 mp.k12
  hC : CoAt w mp.a1 mp.a2 mp.a3 C
  hI : InAt w mp.b1 mp.b2 mp.b3 I
  C : mp.C = C
  I : mp.I = I
  v : mp.v = v
end Go.Proofs.YtgooegcmgejfpaaGreatDoor.Mac
namespace Go.Proofs.YtgooegcmgejfpaaGreatDoor.Mac
open Go Go.RowKit Go.Proofs.YtgooegcmgejfpaaGreatDoor.Mem Go.Proofs.YtgooegcmgejfpaaGreatDoor.Travel
open Go.Proofs.YtgooegcmgejfpaaGreatDoor.Valid (inB nodes nodes_bd validB ret_bool)
open Go.Proofs.YtgooegcmgejfpaaGreatDoor.StV (stopB)
set_option linter.unusedVariables false
set_option linter.unusedSimpArgs false
attribute [local go_sem ↓] Go.wp_at_zero Go.wp_at_succ

/-- A frame whose machine is older than the call. -/
structure Frx (w0 w : World) (F : Nat) (f : Fr) (r s T : List Int) (mp : Mp) (v : Nat) : Prop where
  fra : Fra w0 w F f r s T mp v
  lM : f.M < w0.heap.size
  l5 : mp.k5 < w0.heap.size
  l6 : mp.k6 < w0.heap.size
  l7 : mp.k7 < w0.heap.size
  l8 : mp.k8 < w0.heap.size
  l9 : mp.k9 < w0.heap.size
  l10 : mp.k10 < w0.heap.size
  l11 : mp.k11 < w0.heap.size
  l12 : mp.k12 < w0.heap.size
theorem Frx.moved {w0 w w' : World} {F : Nat} {f : Fr} {r s T : List Int} {mp : Mp} {v : Nat} (h : Frx w0 w F f r s T mp v) {n : Int} (n0 : 0 ≤ n) (n1 : n ≤ nodes mp.I - 1) (hp : f.p ≤ 4096)
    (ho : Ok w' F { f with d := n, p := f.p + 1, t := nxT mp.I f n, s := nxS mp.I f n, l := nxL mp.I f n } (over r (nextL mp.I v (stF f) n)) s) (ht : Oth w0.heap.size F f.gR f.gS w w') :
    Frx w0 w' F { f with d := n, p := f.p + 1, t := nxT mp.I f n, s := nxS mp.I f n, l := nxL mp.I f n } (over r (nextL mp.I v (stF f) n)) s T mp v :=
  ⟨h.fra.moved n0 n1 hp ho ht, h.lM, h.l5, h.l6, h.l7, h.l8, h.l9, h.l10, h.l11, h.l12⟩
theorem Box.set {w : World} {F gR gS k g i : Nat} {fid : FuncId} (h : Box w F gR gS k fid) (hne : k ≠ g) (x : Value) : Box (w.setCell ⟨g, i, none⟩ x) F gR gS k fid := ⟨blk_set_other h.blk hne _, h.f, h.r, h.s⟩
theorem Ok.away {w : World} {F : Nat} {f : Fr} {r s : List Int} (h : Ok w F f r s) {g i : Nat} (h1 : g ≠ F) (h2 : g ≠ f.gR) (h3 : g ≠ f.gS) (x : Value) : Ok (w.setCell ⟨g, i, none⟩ x) F f r s :=
  ⟨blk_set_other h.hF (Ne.symm h1) _, h.hr.other h2 _, h.hs.other h3 _, h.nr, h.ns, h.aS, h.fr, h.fs, h.rs⟩
/-- The status of one request is written. -/
theorem Frx.status {w0 w : World} {F : Nat} {f : Fr} {r s T : List Int} {mp : Mp} {v : Nat} (h : Frx w0 w F f r s T mp v) {g q : Nat} (hg : f.aT = some ⟨g, 0, none⟩ ∧ w0.heap.size ≤ g ∧ g ≠ F ∧ g ≠ f.gR ∧ g ≠ f.gS ∧ Rw w g T) (hq : q < T.length) (x : Int) :
    Frx w0 (w.setCell ⟨g, q, none⟩ (.int .i64 x)) F f r s (T.set q x) mp v := by
  obtain ⟨h1, h2, h3, h4, h5, h6⟩ := hg
  have f0 := h.fra
  have ne : ∀ k, k < w0.heap.size → k ≠ g := fun k hk => by omega
  exact ⟨⟨f0.ok.away h3 h4 h5 _, f0.bel.setCell h2 _, f0.bF, f0.bR, f0.bS, blk_set_other f0.hM (ne _ h.lM) _, f0.mF, f0.mR, f0.mS, f0.hI, f0.hC, f0.b5.set (ne _ h.l5) _, f0.b6.set (ne _ h.l6) _, f0.b7.set (ne _ h.l7) _, f0.b8.set (ne _ h.l8) _, f0.b9.set (ne _ h.l9) _, f0.b10.set (ne _ h.l10) _, f0.b11.set (ne _ h.l11) _, f0.b12.set (ne _ h.l12) _, f0.val, f0.co, f0.mv, f0.hv, f0.nr, f0.ns, f0.Br, f0.Bs, f0.u, f0.p0, f0.p1, f0.d0, f0.d1, by rw [List.length_set]; exact f0.nT, by rw [List.length_set]; exact f0.lT, by rw [size_set]; exact f0.lS, Or.inr ⟨g, h1, h2, h3, h4, h5, h6.set hq x⟩⟩, h.lM, h.l5, h.l6, h.l7, h.l8, h.l9, h.l10, h.l11, h.l12⟩
/-- Behind a block. -/
theorem Frx.ran {w0 w w' : World} {F : Nat} {f : Fr} {r s r' s' T : List Int} {mp : Mp} {v : Nat} {q nx : Int} {E : En} (h : Frx w0 w F f r s T mp v) (hr : Run w0 w' F { f with q := q, nx := nx, u := -1 } r' s' mp E mp.C.R mp.C.S) (ht : Oth w0.heap.size F f.gR f.gS w w') :
    Frx w0 w' F { f with q := q, nx := nx, u := -1 } r' s' T mp v := by
  have f0 := h.fra
  exact ⟨⟨hr.ok, hr.bel, f0.bF, f0.bR, f0.bS, hr.hM, f0.mF, f0.mR, f0.mS, f0.hI, f0.hC, hr.b5, hr.b6, hr.b7, hr.b8, hr.b9, hr.b10, hr.b11, hr.b12, f0.val, f0.co, f0.mv, f0.hv, f0.nr, f0.ns, hr.Br, hr.Bs, rfl, f0.p0, f0.p1, f0.d0, f0.d1, f0.nT, f0.lT, Nat.lt_of_lt_of_le f0.lS ht.bel.size, by
    rcases f0.st with h0 | ⟨g, h1, h2, h3, h4, h5, h6⟩
    · exact Or.inl h0
    · exact Or.inr ⟨g, h1, h2, h3, h4, h5, h6.oth ht h3 h4 h5⟩⟩, h.lM, h.l5, h.l6, h.l7, h.l8, h.l9, h.l10, h.l11, h.l12⟩

theorem dueI (b : Bool) (w : World) : Calls Tryz.prog 123 #[.bool b] w fun e w' => e = .returned (.int .i64 (bit b)) ∧ w' = w := by
  cases b <;> (go_enter Tryz.func123, Tryz.ntmps123; go_wp2; go_ret; exact ⟨rfl, rfl⟩)

/-- The request of a stop, and the status that it must have. -/
def qOf (I : In) (n : Int) : Nat := ((n - I.nV) / 2).toNat
def dueOf (I : In) (n : Int) : Int := bit ((n - I.nV) % 2 == 1)
/-- What a step leaves: a rule that is broken, or a frame that runs. -/
def StepPost (w0 : World) (F : Nat) (f : Fr) (r s T : List Int) (mp : Mp) (v : Nat) (n : Int) (e : Ending) (w' : World) : Prop :=
  (∃ x, e = .returned x) ∧ Below w0.heap.size w0 w' ∧
    if T.getD (qOf mp.I n) 0 ≠ dueOf mp.I n then (∃ q nx, w'.heap[F]? = some (.cells (failC (f.p + 1) 0 f.M q nx) 93))
    else ((exec (enAt mp.I v n) mp.C.B2 mp.C.n2 mp.C.n2 0 (over r (nextL mp.I v (stF f) n)) s).2.2 = -1 ∧ ∃ q nx, Frx w0 w' F { f with d := n, p := f.p + 1, t := nxT mp.I f n, s := nxS mp.I f n, l := nxL mp.I f n, q := q, nx := nx, u := -1 } (exec (enAt mp.I v n) mp.C.B2 mp.C.n2 mp.C.n2 0 (over r (nextL mp.I v (stF f) n)) s).1 (exec (enAt mp.I v n) mp.C.B2 mp.C.n2 mp.C.n2 0 (over r (nextL mp.I v (stF f) n)) s).2.1 (T.set (qOf mp.I n) (dueOf mp.I n + 1)) mp v) ∨
      (1 ≤ (exec (enAt mp.I v n) mp.C.B2 mp.C.n2 mp.C.n2 0 (over r (nextL mp.I v (stF f) n)) s).2.2 ∧ ∃ q nx, w'.heap[F]? = some (.cells (failC (f.p + 1) (exec (enAt mp.I v n) mp.C.B2 mp.C.n2 mp.C.n2 0 (over r (nextL mp.I v (stF f) n)) s).2.2 f.M q nx) 93))

set_option maxHeartbeats 4000000 in
set_option maxRecDepth 100000 in
theorem stepI (w0 w : World) (F : Nat) (f : Fr) (r s T : List Int) (mp : Mp) (v : Nat) (n : Int) (h : Frx w0 w F f r s T mp v) (hp : f.p ≤ 4096) (hs : stopB mp.I n = true) :
    Calls Tryz.prog 75 #[.pointer (some ⟨F, 0, none⟩), .int .i64 n] w (StepPost w0 F f r s T mp v n) := by
  have H := Hid.mk h
  have y9 := blk_cell h.fra.ok.hF 9
  have m0 := blk_cell h.fra.hM 0
  have m1 := blk_cell h.fra.hM 1
  have m2 := blk_cell h.fra.hM 2
  simp only [frC, mcC, List.getElem?_toArray, List.getElem?_cons_zero, List.getElem?_cons_succ] at y9 m0 m1 m2
  obtain ⟨l1, l2, l3⟩ := lens_bd (validB_parts h.fra.val).1
  obtain ⟨g1, g2, g3, g4⟩ := stop_bd hs
  have n0 : 0 ≤ n := by omega
  obtain ⟨k0, k1, k2, k3⟩ := StV.co_bd h.fra.co
  have hnr := h.fra.nr
  have hTl : Hid (T.length = mp.I.nQ) := h.fra.lT
  have hTn : Hid (f.nT = T.length) := h.fra.nT
  have HST := Hid.mk hs
  clear h
  go_enter Tryz.func75, Tryz.ntmps75
  go_wp2_with fail
  refine (stopOfI mp.b1 mp.b2 mp.b3 mp.d1 mp.d2 mp.d3 mp.I n _ l1 l2 hs).mono ?_
  rintro e w1 ⟨rfl, hb⟩
  have HB1 := Hid.mk hb
  clear hb y9 m0 m1 m2
  have G0 : Hid (Frx w0 w1 F f r s T mp v) := Hid.mk ⟨H.out.fra.below HB1.out, H.out.lM, H.out.l5, H.out.l6, H.out.l7, H.out.l8, H.out.l9, H.out.l10, H.out.l11, H.out.l12⟩
  go_wp2_with fail
  refine (dueI _ _).mono ?_
  rintro e w' ⟨rfl, rfl⟩
  go_wp2_with fail
  refine (moveToI w0.heap.size F f r s mp v n _ G0.out.fra.ok G0.out.fra.hM (G0.out.fra.hI.below G0.out.fra.bel) G0.out.fra.val G0.out.fra.mv G0.out.fra.hv G0.out.fra.d0 G0.out.fra.d1 n0 g2 G0.out.fra.p0 (by omega) G0.out.fra.bel.size G0.out.fra.bF G0.out.fra.bR (by omega) G0.out.fra.mF G0.out.fra.mR G0.out.fra.mS).mono ?_
  rintro e w2 ⟨⟨vv, rfl⟩, ho, ht⟩
  have G := Hid.mk (G0.out.moved n0 g2 hp ho ht)
  clear ho ht
  obtain ⟨q, hq⟩ : ∃ q : Nat, (n - mp.I.nV) / 2 = (q : Int) := ⟨((n - mp.I.nV) / 2).toNat, by omega⟩
  have hqe : Hid (qOf mp.I n = q) := by unfold Hid qOf; rw [hq]; exact Int.toNat_natCast q
  have hql : q < T.length := by have := hTl.out; omega
  rw [hq]
  rcases G.out.fra.st with h0 | ⟨g, e1, e2, e3, e4, e5, e6⟩
  · omega
  have HG := Hid.mk (And.intro e1 (And.intro e2 (And.intro e3 (And.intro e4 (And.intro e5 e6)))))
  have y6 := blk_cell G.out.fra.ok.hF 6
  simp only [frC, mcC, List.getElem?_toArray, List.getElem?_cons_zero, List.getElem?_cons_succ] at y6
  have e1' : f.aT = some ⟨g, 0, none⟩ := e1
  rw [e1'] at y6
  have c0 := (e6 q hql).1
  have c1 := (e6 q hql).2
  obtain ⟨tq, htq⟩ : ∃ tq, tq = T.getD q 0 := ⟨_, rfl⟩
  rw [← htq] at c0
  have HTQ := Hid.mk htq
  clear htq
  have kk0 : (0 : Int) ≤ (q : Int) := by omega
  have kk1 : (q : Int) < (f.nT : Int) := by have := hTn.out; omega
  have hd : Hid (dueOf mp.I n = bit ((n - mp.I.nV) % 2 == 1)) := rfl
  generalize hdu : bit ((n - (mp.I.nV : Int)) % 2 == 1) = du at hd ⊢
  have hdb : 0 ≤ du ∧ du ≤ 1 := by rw [← hdu]; exact bit_bd _
  clear e1 e1' e2 e3 e4 e5 e6 hdu
  by_cases hw : tq = du
  · have t1 : (tq != du) = false := by rw [hw]; exact bne_self_eq_false du
    have HW := Hid.mk hw
    clear hw
    have hww : IntKind.i64.wrap (du + 1) = du + 1 := by rw [IntKind.wrap_i64]; omega
    go_upto_region 6 with fail
    have G2 := Hid.mk (G.out.status HG.out hql (du + 1))
    clear y6 c0 c1
    obtain ⟨X, hX⟩ : ∃ X, X = w2.setCell ⟨g, q, none⟩ (.int .i64 (du + 1)) := ⟨_, rfl⟩
    rw [← hX] at G2 ⊢
    clear hX
    have y9 := blk_cell G2.out.fra.ok.hF 9
    have m7 := blk_cell G2.out.fra.hM 7
    simp only [frC, mcC, List.getElem?_toArray, List.getElem?_cons_zero, List.getElem?_cons_succ] at y9 m7
    have hb2 : Hid (ValC.okBlk mp.C.R mp.C.S mp.C.n2 mp.C.B2 = true) := by
      have := H.out.fra.co
      unfold ValC.okCo at this
      simp only [Bool.and_eq_true] at this
      exact this.1.2
    go_wp2_with fail
    refine (G2.out.fra.block mp.C.B2 mp.C.n2 mp.c2 mp.a2 H.out.fra.hC.b2 hb2.out).mono ?_
    rintro e w3 ⟨⟨vv, rfl⟩, ht, hr⟩
    have HT := Hid.mk ht
    have HR := Hid.mk hr
    clear ht hr y9 m7
    go_wp2
    go_end0
    refine ⟨⟨_, rfl⟩, G2.out.fra.bel.trans HT.out.bel, ?_⟩
    rw [if_neg (by rw [hqe.out, hd.out, ← HTQ.out]; exact fun h => h HW.out), hqe.out, hd.out]
    rcases HR.out with ⟨x1, nx, hrun⟩ | ⟨x1, nx, hF⟩
    · exact Or.inl ⟨x1, _, nx, G2.out.ran hrun HT.out⟩
    · exact Or.inr ⟨x1, _, nx, hF⟩
  · have t1 : (tq != du) = true := bne_iff_ne.2 hw
    have HW := Hid.mk hw
    clear hw
    go_wp2_with fail
    refine (failI w0.heap.size F _ 0 _ G.out.fra.ok.hF H.out.fra.bF f.gR f.gS).mono ?_
    rintro e w3 ⟨⟨vv, rfl⟩, hF, ht⟩
    have HF := Hid.mk hF
    have HT := Hid.mk ht
    clear hF ht
    go_wp2
    refine bodyPost_ret (results_none rfl _ _ _) rfl ?_
    refine ⟨⟨_, rfl⟩, G.out.fra.bel.trans HT.out.bel, ?_⟩
    rw [if_pos (by rw [hqe.out, hd.out, ← HTQ.out]; exact HW.out)]
    exact ⟨_, _, HF.out⟩
end Go.Proofs.YtgooegcmgejfpaaGreatDoor.Mac
