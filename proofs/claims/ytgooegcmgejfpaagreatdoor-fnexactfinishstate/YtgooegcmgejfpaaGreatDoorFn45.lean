import Derived.Test.YtgooegcmgejfpaaGreatDoorFn44
import Derived.Deep.DrawnRows
import Derived.Test.YtgooegcmgejfpaaGreatDoorFn32
namespace Go.Proofs.YtgooegcmgejfpaaGreatDoor.Mac
open Go Go.RowKit Go.Proofs.YtgooegcmgejfpaaGreatDoor.Mem Go.Proofs.YtgooegcmgejfpaaGreatDoor.Travel
set_option linter.unusedVariables false
set_option linter.unusedSimpArgs false
attribute [local go_sem ↓] Go.wp_at_zero Go.wp_at_succ

/-- What a frame answers at its end. -/
def verd (p u : Int) : Int × Int × Int := if u = -1 then (1, 0, 0) else (2, p, u)
set_option maxHeartbeats 4000000 in
set_option maxRecDepth 100000 in
/-- A frame that runs, at the return. -/
theorem finishI (w0 w : World) (F : Nat) (f : Fr) (r s T : List Int) (mp : Mp) (v : Nat) (h : Fra w0 w F f r s T mp v) (hp : f.p ≤ 4096) :
    Calls Tryz.prog 76 #[.pointer (some ⟨F, 0, none⟩)] w fun e w' => e = .returned (.agg #[.int .i64 (verd (f.p + 1) (homeU mp v f r s T)).1, .int .i64 (verd (f.p + 1) (homeU mp v f r s T)).2.1, .int .i64 (verd (f.p + 1) (homeU mp v f r s T)).2.2]) ∧ Below w0.heap.size w0 w' := by
  have H := Hid.mk h
  have hFl := blk_lt h.ok.hF
  have H1 := Hid.mk (h.below ((Below.refl _ _).alloc (Nat.le_refl _) (.cells #[.int .i64 0, .int .i64 0, .int .i64 0] 59)))
  have y1 := blk_cell h.ok.hF 1
  simp only [frC, mcC, List.getElem?_toArray, List.getElem?_cons_zero, List.getElem?_cons_succ] at y1
  rw [h.u] at y1
  have hVF : Hid (F ≠ w.heap.size) := by unfold Hid; omega
  have hVB : Hid (w0.heap.size ≤ w.heap.size) := h.bel.size
  have hg : Hid (w.heap.size ≠ F ∧ w.heap.size ≠ f.gR ∧ w.heap.size ≠ f.gS) := by
    have a1 := h.lS
    obtain ⟨k0, k1, k2, k3⟩ := StV.co_bd h.co
    have a2 := h.nr
    have a3 := h.ok.nr
    have a4 := lt_of_cell (h.ok.hr 0 (by omega)).1
    exact ⟨by omega, by omega, by omega⟩
  clear h
  go_enter Tryz.func76, Tryz.ntmps76
  go_wp2_with fail
  clear y1
  refine (goHomeI w0 _ F f r s T mp v H1.out hp).mono ?_
  rintro e w1 ⟨⟨vv, rfl⟩, ht, cs, hF, hc0, hc1⟩
  have AV := Hid.mk (ht.blk (blk_new w (.cells #[.int .i64 0, .int .i64 0, .int .i64 0] 59)) hg.out.1 hg.out.2.1 hg.out.2.2)
  have HBW := Hid.mk (H1.out.bel.trans ht.bel)
  have y0 := (blk_cell hF 0).trans hc0
  have y1 := (blk_cell hF 1).trans hc1
  clear ht hF hc0 hc1 H1
  obtain ⟨U, hUe⟩ : ∃ U, U = homeU mp v f r s T := ⟨_, rfl⟩
  rw [← hUe] at y1
  have HUE := Hid.mk hUe
  clear hUe
  have v0 := blk_cell AV.out 0
  have v1 := blk_cell AV.out 1
  have v2 := blk_cell AV.out 2
  have u0 := blk_unfrozen AV.out 0
  have u1 := blk_unfrozen AV.out 1
  have u2 := blk_unfrozen AV.out 2
  simp only [List.getElem?_toArray, List.getElem?_cons_zero, List.getElem?_cons_succ] at v0 v1 v2
  by_cases hU : U = -1
  · rw [hU] at y1 HUE
    clear hU
    have hE : Hid (verd (f.p + 1) (homeU mp v f r s T) = (1, 0, 0)) := by unfold Hid verd; rw [← HUE.out, if_pos rfl]
    go_wp2
    refine bodyPost_ret (results_cell_row Tryz.results76 _ _ w.heap.size _ _ _ _ (by simp [Act.put]) (vsetI AV.out _ _ _) Tryz.underlying59 rfl infoVdI) rfl ?_
    exact ⟨by rw [hE.out], vbelI HBW.out hVB.out _ _ _⟩
  · have hE : Hid (verd (f.p + 1) (homeU mp v f r s T) = (2, f.p + 1, U)) := by unfold Hid verd; rw [← HUE.out, if_neg hU]
    have e1 : (U != -1) = true := by simp [hU]
    clear hU
    go_upto_region 4 with fail
    have HS4 := Hid.mk (And.intro y0 y1)
    have AV := Hid.mk (mblk_drew AV.out)
    have HBW := Hid.mk HBW.out.drew
    clear y0 y1 v0 v1 v2 u0 u1 u2
    refine wp_region_held_drew (S := (fun w' => w'.cell? ⟨F, 0, none⟩ = some (.int .i64 (f.p + 1)) ∧ w'.cell? ⟨F, 1, none⟩ = some (.int .i64 U))) (by kernel_rfl) ?_ (fun hHeld => ?_)
    · exact HS4.out
    refine wpAnyH_take (i := 0) (v := ?_) rfl (by kernel_rfl) (by kernel_rfl) (by kernel_rfl) (fun _ _ _ h => h) (Or.inl ⟨by rfl, ?_⟩) (by assumption) ?_
    rotate_left
    · intro w hSw; (try dsimp only at hSw); go_simp; (try with_reducible rfl)
    rotate_left
    simp only [Act.put, List.setIfInBounds_toArray, List.set_cons_zero, List.set_cons_succ, List.getElem_toArray, List.getElem_cons_zero, List.getElem_cons_succ]
    refine wpAnyH_take (i := 1) (v := ?_) rfl (by kernel_rfl) (by kernel_rfl) (by kernel_rfl) (fun _ _ _ h => h) (Or.inl ⟨by rfl, ?_⟩) (by assumption) ?_
    rotate_left
    · intro w hSw; (try dsimp only at hSw); go_simp; (try with_reducible rfl)
    rotate_left
    simp only [Act.put, List.setIfInBounds_toArray, List.set_cons_zero, List.set_cons_succ, List.getElem_toArray, List.getElem_cons_zero, List.getElem_cons_succ]
    refine wpAnyH_take (i := 2) (v := ?_) rfl (by kernel_rfl) (by kernel_rfl) (by kernel_rfl) (fun _ _ _ h => h) (Or.inl ⟨by rfl, ?_⟩) (by assumption) ?_
    rotate_left
    · intro w hSw; (try dsimp only at hSw); go_simp; (try with_reducible rfl)
    rotate_left
    simp only [Act.put, List.setIfInBounds_toArray, List.set_cons_zero, List.set_cons_succ, List.getElem_toArray, List.getElem_cons_zero, List.getElem_cons_succ]
    refine wpAnyH_take (i := 3) (v := ?_) rfl (by kernel_rfl) (by kernel_rfl) (by kernel_rfl) (fun _ _ _ h => h) (Or.inl ⟨by rfl, ?_⟩) (by assumption) ?_
    rotate_left
    · intro w hSw; (try dsimp only at hSw); go_simp; (try with_reducible rfl)
    rotate_left
    simp only [Act.put, List.setIfInBounds_toArray, List.set_cons_zero, List.set_cons_succ, List.getElem_toArray, List.getElem_cons_zero, List.getElem_cons_succ]
    refine wpAnyH_take (i := 4) (v := ?_) rfl (by kernel_rfl) (by kernel_rfl) (by kernel_rfl) (fun _ _ _ h => h) (Or.inl ⟨by rfl, ?_⟩) (by assumption) ?_
    rotate_left
    · intro w hSw; (try dsimp only at hSw); go_simp; (try with_reducible rfl)
    rotate_left
    simp only [Act.put, List.setIfInBounds_toArray, List.set_cons_zero, List.set_cons_succ, List.getElem_toArray, List.getElem_cons_zero, List.getElem_cons_succ]
    refine wpAnyH_take (i := 5) (v := ?_) rfl (by kernel_rfl) (by kernel_rfl) (by kernel_rfl) (fun _ _ _ h => h) (Or.inl ⟨by rfl, ?_⟩) (by assumption) ?_
    rotate_left
    · intro w hSw; (try dsimp only at hSw); go_simp; (try with_reducible rfl)
    rotate_left
    simp only [Act.put, List.setIfInBounds_toArray, List.set_cons_zero, List.set_cons_succ, List.getElem_toArray, List.getElem_cons_zero, List.getElem_cons_succ]
    refine wpAnyH_take (i := 6) (v := ?_) rfl (by kernel_rfl) (by kernel_rfl) (by kernel_rfl) (fun _ _ _ h => h) (Or.inl ⟨by rfl, ?_⟩) (by assumption) ?_
    rotate_left
    · intro w hSw; (try dsimp only at hSw); go_simp; (try with_reducible rfl)
    rotate_left
    simp only [Act.put, List.setIfInBounds_toArray, List.set_cons_zero, List.set_cons_succ, List.getElem_toArray, List.getElem_cons_zero, List.getElem_cons_succ]
    refine wpAnyH_take (i := 7) (v := ?_) rfl (by kernel_rfl) (by kernel_rfl) (by kernel_rfl) (fun _ _ _ h => h) (Or.inl ⟨by rfl, ?_⟩) (by assumption) ?_
    rotate_left
    · intro w hSw; (try dsimp only at hSw); go_simp; (try with_reducible rfl)
    rotate_left
    simp only [Act.put, List.setIfInBounds_toArray, List.set_cons_zero, List.set_cons_succ, List.getElem_toArray, List.getElem_cons_zero, List.getElem_cons_succ]
    refine wpAnyH_take (i := 8) (v := ?_) rfl (by kernel_rfl) (by kernel_rfl) (by kernel_rfl) (fun _ _ _ h => h) (Or.inl ⟨by rfl, ?_⟩) (by assumption) ?_
    rotate_left
    · intro w hSw; (try dsimp only at hSw); go_simp; (try with_reducible rfl)
    rotate_left
    simp only [Act.put, List.setIfInBounds_toArray, List.set_cons_zero, List.set_cons_succ, List.getElem_toArray, List.getElem_cons_zero, List.getElem_cons_succ]
    refine wpAnyH_take (i := 9) (v := ?_) rfl (by kernel_rfl) (by kernel_rfl) (by kernel_rfl) (fun _ _ _ h => h) (Or.inl ⟨by rfl, ?_⟩) (by assumption) ?_
    rotate_left
    · intro w hSw; (try dsimp only at hSw); go_simp; (try with_reducible rfl)
    rotate_left
    simp only [Act.put, List.setIfInBounds_toArray, List.set_cons_zero, List.set_cons_succ, List.getElem_toArray, List.getElem_cons_zero, List.getElem_cons_succ]
    refine wpAnyH_ready (rs := [10]) (by kernel_rfl) (by simp) ?_
    refine AllReadyH.cons rfl (fun K hK => ?_) ?_
    · go_simp
      refine (rejectedI (f.p + 1) U _).mono ?_
      rintro e w9 ⟨rfl, hb⟩
      have AV := Hid.mk (blk_below AV.out hb)
      have HBW := Hid.mk (below_then HBW.out hb)
      refine hK.out _ _ ?_ (fun hHeld => ?_)
      · exact ⟨cell_keep hb hHeld.1, cell_keep hb hHeld.2⟩
      clear hK K
      (try simp only [Act.put, List.setIfInBounds_toArray, List.set_cons_zero, List.set_cons_succ, List.getElem_toArray, List.getElem_cons_zero, List.getElem_cons_succ])
      refine wpAnyH_ready (rs := [11]) (by kernel_rfl) (by simp) ?_
      refine AllReadyH.cons rfl (fun K hK => ?_) ?_
      · rw [if_pos (by rfl)]
        refine wp_store_row _ _ _ rfl _ #[.int .i64 2, .int .i64 (f.p + 1), .int .i64 U] rfl rfl _ _ AV.out infoVdI rfl (by simp [Value.oneCell']) ?_
        refine hK.out _ _ ?_ (fun hHeld => ?_)
        · exact ⟨mcell_srow hHeld.1 hVF.out, mcell_srow hHeld.2 hVF.out⟩
        clear hK K
        (try simp only [Act.put, List.setIfInBounds_toArray, List.set_cons_zero, List.set_cons_succ, List.getElem_toArray, List.getElem_cons_zero, List.getElem_cons_succ])
        refine wpAnyH_done (by kernel_rfl) ?_ _
        go_wp2
        refine bodyPost_ret (results_cell_row Tryz.results76 _ _ _ _ _ _ _ (by simp [Act.put]) (row_self AV.out _) Tryz.underlying59 rfl infoVdI) rfl ?_
        exact ⟨by rw [hE.out], row_below HBW.out hVB.out _⟩
      exact AllReadyH.nil
    exact AllReadyH.nil

set_option maxHeartbeats 4000000 in
set_option maxRecDepth 100000 in
/-- A frame that has failed, at the return. -/
theorem finishF (w0 w : World) (F : Nat) (p U : Int) (cs : Array Value) (hF : w.heap[F]? = some (.cells cs 93)) (hc0 : cs[0]? = some (.int .i64 p)) (hc1 : cs[1]? = some (.int .i64 U)) (hU : U ≠ -1) (hbel : Below w0.heap.size w0 w) :
    Calls Tryz.prog 76 #[.pointer (some ⟨F, 0, none⟩)] w fun e w' => e = .returned (.agg #[.int .i64 (verd p U).1, .int .i64 (verd p U).2.1, .int .i64 (verd p U).2.2]) ∧ Below w0.heap.size w0 w' := by
  have hFl := blk_lt hF
  have hVF : Hid (F ≠ w.heap.size) := by unfold Hid; omega
  have hVB : Hid (w0.heap.size ≤ w.heap.size) := hbel.size
  have HBW := Hid.mk (hbel.alloc hbel.size (.cells #[.int .i64 0, .int .i64 0, .int .i64 0] 59))
  have AV := Hid.mk (blk_new w (.cells #[.int .i64 0, .int .i64 0, .int .i64 0] 59))
  have hF' := blk_alloc hF (.cells #[.int .i64 0, .int .i64 0, .int .i64 0] 59)
  have y0 := (blk_cell hF' 0).trans hc0
  have y1 := (blk_cell hF' 1).trans hc1
  have x1 := (blk_cell hF 1).trans hc1
  clear hF hc0 hc1 hF' hbel
  have hE : Hid (verd p U = (2, p, U)) := by unfold Hid verd; rw [if_neg hU]
  have e1 : (U != -1) = true := by simp [hU]
  have e2 : (U == -1) = false := by simp [hU]
  clear hU
  have v0 := blk_cell AV.out 0
  have v1 := blk_cell AV.out 1
  have v2 := blk_cell AV.out 2
  have u0 := blk_unfrozen AV.out 0
  have u1 := blk_unfrozen AV.out 1
  have u2 := blk_unfrozen AV.out 2
  simp only [List.getElem?_toArray, List.getElem?_cons_zero, List.getElem?_cons_succ] at v0 v1 v2
  go_enter Tryz.func76, Tryz.ntmps76
  go_upto_region 4 with fail
  have HS4 := Hid.mk (And.intro y0 y1)
  have AV := Hid.mk (mblk_drew AV.out)
  have HBW := Hid.mk HBW.out.drew
  clear y0 y1 v0 v1 v2 u0 u1 u2
  refine wp_region_held_drew (S := (fun w' => w'.cell? ⟨F, 0, none⟩ = some (.int .i64 p) ∧ w'.cell? ⟨F, 1, none⟩ = some (.int .i64 U))) (by kernel_rfl) ?_ (fun hHeld => ?_)
  · exact HS4.out
  refine wpAnyH_take (i := 0) (v := ?_) rfl (by kernel_rfl) (by kernel_rfl) (by kernel_rfl) (fun _ _ _ h => h) (Or.inl ⟨by rfl, ?_⟩) (by assumption) ?_
  rotate_left
  · intro w hSw; (try dsimp only at hSw); go_simp; (try with_reducible rfl)
  rotate_left
  simp only [Act.put, List.setIfInBounds_toArray, List.set_cons_zero, List.set_cons_succ, List.getElem_toArray, List.getElem_cons_zero, List.getElem_cons_succ]
  refine wpAnyH_take (i := 1) (v := ?_) rfl (by kernel_rfl) (by kernel_rfl) (by kernel_rfl) (fun _ _ _ h => h) (Or.inl ⟨by rfl, ?_⟩) (by assumption) ?_
  rotate_left
  · intro w hSw; (try dsimp only at hSw); go_simp; (try with_reducible rfl)
  rotate_left
  simp only [Act.put, List.setIfInBounds_toArray, List.set_cons_zero, List.set_cons_succ, List.getElem_toArray, List.getElem_cons_zero, List.getElem_cons_succ]
  refine wpAnyH_take (i := 2) (v := ?_) rfl (by kernel_rfl) (by kernel_rfl) (by kernel_rfl) (fun _ _ _ h => h) (Or.inl ⟨by rfl, ?_⟩) (by assumption) ?_
  rotate_left
  · intro w hSw; (try dsimp only at hSw); go_simp; (try with_reducible rfl)
  rotate_left
  simp only [Act.put, List.setIfInBounds_toArray, List.set_cons_zero, List.set_cons_succ, List.getElem_toArray, List.getElem_cons_zero, List.getElem_cons_succ]
  refine wpAnyH_take (i := 3) (v := ?_) rfl (by kernel_rfl) (by kernel_rfl) (by kernel_rfl) (fun _ _ _ h => h) (Or.inl ⟨by rfl, ?_⟩) (by assumption) ?_
  rotate_left
  · intro w hSw; (try dsimp only at hSw); go_simp; (try with_reducible rfl)
  rotate_left
  simp only [Act.put, List.setIfInBounds_toArray, List.set_cons_zero, List.set_cons_succ, List.getElem_toArray, List.getElem_cons_zero, List.getElem_cons_succ]
  refine wpAnyH_take (i := 4) (v := ?_) rfl (by kernel_rfl) (by kernel_rfl) (by kernel_rfl) (fun _ _ _ h => h) (Or.inl ⟨by rfl, ?_⟩) (by assumption) ?_
  rotate_left
  · intro w hSw; (try dsimp only at hSw); go_simp; (try with_reducible rfl)
  rotate_left
  simp only [Act.put, List.setIfInBounds_toArray, List.set_cons_zero, List.set_cons_succ, List.getElem_toArray, List.getElem_cons_zero, List.getElem_cons_succ]
  refine wpAnyH_take (i := 5) (v := ?_) rfl (by kernel_rfl) (by kernel_rfl) (by kernel_rfl) (fun _ _ _ h => h) (Or.inl ⟨by rfl, ?_⟩) (by assumption) ?_
  rotate_left
  · intro w hSw; (try dsimp only at hSw); go_simp; (try with_reducible rfl)
  rotate_left
  simp only [Act.put, List.setIfInBounds_toArray, List.set_cons_zero, List.set_cons_succ, List.getElem_toArray, List.getElem_cons_zero, List.getElem_cons_succ]
  refine wpAnyH_take (i := 6) (v := ?_) rfl (by kernel_rfl) (by kernel_rfl) (by kernel_rfl) (fun _ _ _ h => h) (Or.inl ⟨by rfl, ?_⟩) (by assumption) ?_
  rotate_left
  · intro w hSw; (try dsimp only at hSw); go_simp; (try with_reducible rfl)
  rotate_left
  simp only [Act.put, List.setIfInBounds_toArray, List.set_cons_zero, List.set_cons_succ, List.getElem_toArray, List.getElem_cons_zero, List.getElem_cons_succ]
  refine wpAnyH_take (i := 7) (v := ?_) rfl (by kernel_rfl) (by kernel_rfl) (by kernel_rfl) (fun _ _ _ h => h) (Or.inl ⟨by rfl, ?_⟩) (by assumption) ?_
  rotate_left
  · intro w hSw; (try dsimp only at hSw); go_simp; (try with_reducible rfl)
  rotate_left
  simp only [Act.put, List.setIfInBounds_toArray, List.set_cons_zero, List.set_cons_succ, List.getElem_toArray, List.getElem_cons_zero, List.getElem_cons_succ]
  refine wpAnyH_take (i := 8) (v := ?_) rfl (by kernel_rfl) (by kernel_rfl) (by kernel_rfl) (fun _ _ _ h => h) (Or.inl ⟨by rfl, ?_⟩) (by assumption) ?_
  rotate_left
  · intro w hSw; (try dsimp only at hSw); go_simp; (try with_reducible rfl)
  rotate_left
  simp only [Act.put, List.setIfInBounds_toArray, List.set_cons_zero, List.set_cons_succ, List.getElem_toArray, List.getElem_cons_zero, List.getElem_cons_succ]
  refine wpAnyH_take (i := 9) (v := ?_) rfl (by kernel_rfl) (by kernel_rfl) (by kernel_rfl) (fun _ _ _ h => h) (Or.inl ⟨by rfl, ?_⟩) (by assumption) ?_
  rotate_left
  · intro w hSw; (try dsimp only at hSw); go_simp; (try with_reducible rfl)
  rotate_left
  simp only [Act.put, List.setIfInBounds_toArray, List.set_cons_zero, List.set_cons_succ, List.getElem_toArray, List.getElem_cons_zero, List.getElem_cons_succ]
  refine wpAnyH_ready (rs := [10]) (by kernel_rfl) (by simp) ?_
  refine AllReadyH.cons rfl (fun K hK => ?_) ?_
  · go_simp
    refine (rejectedI p U _).mono ?_
    rintro e w9 ⟨rfl, hb⟩
    have AV := Hid.mk (blk_below AV.out hb)
    have HBW := Hid.mk (below_then HBW.out hb)
    refine hK.out _ _ ?_ (fun hHeld => ?_)
    · exact ⟨cell_keep hb hHeld.1, cell_keep hb hHeld.2⟩
    clear hK K
    (try simp only [Act.put, List.setIfInBounds_toArray, List.set_cons_zero, List.set_cons_succ, List.getElem_toArray, List.getElem_cons_zero, List.getElem_cons_succ])
    refine wpAnyH_ready (rs := [11]) (by kernel_rfl) (by simp) ?_
    refine AllReadyH.cons rfl (fun K hK => ?_) ?_
    · rw [if_pos (by rfl)]
      refine wp_store_row _ _ _ rfl _ #[.int .i64 2, .int .i64 p, .int .i64 U] rfl rfl _ _ AV.out infoVdI rfl (by simp [Value.oneCell']) ?_
      refine hK.out _ _ ?_ (fun hHeld => ?_)
      · exact ⟨mcell_srow hHeld.1 hVF.out, mcell_srow hHeld.2 hVF.out⟩
      clear hK K
      (try simp only [Act.put, List.setIfInBounds_toArray, List.set_cons_zero, List.set_cons_succ, List.getElem_toArray, List.getElem_cons_zero, List.getElem_cons_succ])
      refine wpAnyH_done (by kernel_rfl) ?_ _
      go_wp2
      refine bodyPost_ret (results_cell_row Tryz.results76 _ _ _ _ _ _ _ (by simp [Act.put]) (row_self AV.out _) Tryz.underlying59 rfl infoVdI) rfl ?_
      exact ⟨by rw [hE.out], row_below HBW.out hVB.out _⟩
    exact AllReadyH.nil
  exact AllReadyH.nil
end Go.Proofs.YtgooegcmgejfpaaGreatDoor.Mac
namespace Go.Proofs.YtgooegcmgejfpaaGreatDoor.Mac
open Go Go.RowKit Go.Proofs.YtgooegcmgejfpaaGreatDoor.Mem Go.Proofs.YtgooegcmgejfpaaGreatDoor.Travel
open Go.Proofs.YtgooegcmgejfpaaGreatDoor.Valid (inB nodes nodes_bd validB ret_bool)
open Go.Proofs.YtgooegcmgejfpaaGreatDoor.StV (stopB okSt deadB failB runB)
set_option linter.unusedVariables false
set_option linter.unusedSimpArgs false

/-- A block ends with no rule, or with a rule's number. -/
theorem exec_u {E : En} {B : Nat → Is} {n : Nat} {R S : Int} (hok : ∀ i, i < n → OkI R S i n (B i)) (f : Nat) : ∀ (k : Nat) (r s : List Int), (exec E B n f k r s).2.2 = -1 ∨ 1 ≤ (exec E B n f k r s).2.2 := by
  induction f with
  | zero => intro k r s; exact Or.inl rfl
  | succ f ih =>
    intro k r s
    rw [exec]
    by_cases hk : n ≤ k
    · rw [if_pos hk]; exact Or.inl rfl
    rw [if_neg hk]
    have h := hok k (by omega)
    split
    · exact ih _ _ _
    · split
      · split <;> exact ih _ _ _
      · split
        · split <;> exact ih _ _ _
        · split
          · rename_i h18
            split
            · exact Or.inr (h.rul h18).1
            · exact ih _ _ _
          · split
            · exact ih _ _ _
            · exact ih _ _ _
theorem nextL_congr {I : In} {v : Nat} {S S' : St} {n : Int} (h1 : S.p = S'.p) (h2 : S.d = S'.d) (h3 : S.t = S'.t) (h4 : S.s = S'.s) (h5 : S.l = S'.l) : nextL I v S n = nextL I v S' n := by
  unfold nextL; rw [h1, h2, h3, h4, h5]
theorem over_next {I : In} {v : Nat} {S : St} {n : Int} {r : List Int} : over r (nextL I v S n) = nextL I v S n ++ r.drop 13 := rfl
theorem gone_below {w w' : World} {M : Nat} {S : St} {e : Ending} (h : Gone w M S e w') : Below w.heap.size w w' := by
  obtain ⟨wc, a1, a2, a3, e1, e2, e3, E1, E2, rfl, rfl, HB, -, -, -, -⟩ := h
  exact HB.alloc HB.size _
theorem gone_ret {w w' : World} {M : Nat} {S : St} {e : Ending} (h : Gone w M S e w') : ∃ F, e = .returned (.pointer (some ⟨F, 0, none⟩)) := by
  obtain ⟨wc, a1, a2, a3, e1, e2, e3, E1, E2, rfl, rfl, HB, -, -, -, -⟩ := h
  exact ⟨_, rfl⟩
theorem gone_at {w w' : World} {M F : Nat} {S : St} (h : Gone w M S (.returned (.pointer (some ⟨F, 0, none⟩))) w') : At w' F S.p S.r := by
  obtain ⟨wc, a1, a2, a3, e1, e2, e3, E1, E2, he, rfl, HB, -, -, -, -⟩ := h
  cases he
  exact ⟨_, blk_new _ _, rfl, rfl⟩
theorem anyB_congr {n : Nat} {f g : Nat → Bool} (h : ∀ i, i < n → f i = g i) : anyB n f = anyB n g := by
  unfold anyB; rw [allB_congr (f := fun i => !f i) (g := fun i => !g i) (fun i hi => by rw [h i hi])]
/-- A machine, as machineFor leaves it. -/
structure Mach (w : World) (M : Nat) (mp : Mp) (C : Co) (I : In) (v : Int) : Prop where
  hM : w.heap[M]? = some (.cells (mcC mp) 153)
  hB : ∃ B, Boxes w B mp.k5 mp.k6 mp.k7 mp.k8 mp.k9 mp.k10 mp.k11 mp.k12
  hC : CoAt w mp.a1 mp.a2 mp.a3 C
  hI : InAt w mp.b1 mp.b2 mp.b3 I
  C : mp.C = C
  I : mp.I = I
  v : mp.v = v
/-- A frame that goes on from a running state. -/
theorem goes_fra {w w' : World} {F M : Nat} {f : Fr} {S : St} {mp : Mp} {C : Co} {I : In} {u : Nat} (g : Goes w w' F M S f) (hm : Mach w M mp C I (u : Int)) (R : RunOk C I u S) : Fra w w' F f (lst S.n2 S.L2) (lst S.n3 S.L3) (lst S.n1 S.L1) mp u := by
  obtain ⟨hM, ⟨B, hB⟩, hC, hI, rfl, rfl, hv⟩ := hm
  have hMl := blk_lt hM
  have bx : ∀ k fid, w.heap[k]? = some (.cells #[fnV fid] 130) → Box w' F f.gR f.gS k fid := fun k fid hk => by
    have := blk_lt hk
    exact ⟨blk_below hk g.bel, by have := g.bF; omega, by have := g.bR; omega, by have := g.bS; omega⟩
  have h1 := g.bF
  have h2 := g.bR
  have h3 := g.bS
  have r1 := R.p0
  have r2 := R.p1
  exact ⟨g.ok, g.bel, g.bF, g.bR, g.bS, by rw [g.m]; exact blk_below hM g.bel, by rw [g.m]; omega, by rw [g.m]; omega, by rw [g.m]; omega, hI, hC, bx _ _ hB.b5, bx _ _ hB.b6, bx _ _ hB.b7, bx _ _ hB.b8, bx _ _ hB.b9, bx _ _ hB.b10, bx _ _ hB.b11, bx _ _ hB.b12, R.val, R.co, hv, R.hv,
    by rw [g.ok.nr, lst_len]; exact R.l2, by rw [g.ok.ns, lst_len]; exact R.l3, lst_bd R.a2, lst_bd R.a3, g.u.trans R.r, by rw [g.p]; exact r1, by rw [g.p]; omega, by rw [g.d]; exact R.d0, by rw [g.d]; exact R.d1, by rw [lst_len]; exact g.nT, by rw [lst_len]; exact R.l1, g.lS, by
      rcases g.st with h | h
      · exact Or.inl (by rw [lst_len]; exact h)
      · exact Or.inr h⟩
/-- The rest of FinishState: the frame is there. -/
theorem finGo {w w' : World} {F M : Nat} {S : St} {mp : Mp} {C : Co} {I : In} {v : Int} (hok : okSt C I v S = true) (hp : S.p ≠ -1) (hm : Mach w M mp C I v) (hg : Gone w M S (.returned (.pointer (some ⟨F, 0, none⟩))) w') :
    Calls Tryz.prog 76 #[.pointer (some ⟨F, 0, none⟩)] w' fun e w2 => e = .returned (.agg #[.int .i64 (finB C I v S).1, .int .i64 (finB C I v S).2.1, .int .i64 (finB C I v S).2.2]) ∧ Below w.heap.size w w2 := by
  by_cases hr : 0 ≤ S.r
  · obtain ⟨cs, hF, hc0, hc1⟩ := gone_at hg
    refine (finishF w w' F S.p S.r cs hF hc0 hc1 (by omega) (gone_below hg)).mono fun e w2 h => ⟨h.1.trans ?_, h.2⟩
    have e1 : verd S.p S.r = finB C I v S := by
      unfold verd finB
      rw [if_neg (by omega), if_neg (by rw [hok]; simp [hp]), if_pos hr]
    rw [e1]
  · obtain ⟨hv0, R⟩ := run_ok hok hp hr
    obtain ⟨u, rfl⟩ : ∃ u : Nat, v = (u : Int) := ⟨v.toNat, by omega⟩
    rw [Int.toNat_natCast] at R
    obtain ⟨k0, k1, k2, k3⟩ := StV.co_bd R.co
    have hl := R.l2
    obtain ⟨F', f, he, g⟩ := gone_goes hg (by omega)
    cases he
    have fr := goes_fra g hm R
    refine (finishI w w' F f _ _ _ mp u fr (by rw [g.p]; exact R.p1)).mono fun e w2 h => ⟨h.1.trans ?_, h.2⟩
    have eI := hm.I
    have eC := hm.C
    have hn : nextL mp.I u (stF f) (u : Int) = nextL I u S u := by
      rw [eI]; exact nextL_congr g.p g.d g.t g.s g.l
    have hb3 : ValC.okBlk C.R C.S C.n3 C.B3 = true := by
      have := R.co
      unfold ValC.okCo at this
      simp only [Bool.and_eq_true] at this
      exact this.2
    have hU : homeU mp u f (lst S.n2 S.L2) (lst S.n3 S.L3) (lst S.n1 S.L1) = if anyB S.n1 (fun i => S.L1 i == 1) = true then 0 else lastR C I u S := by
      unfold homeU lastR
      rw [over_next, hn, eI, eC, lst_len, anyB_congr (fun i hi => by rw [lst_get hi])]
    have hx := exec_u (E := enHome I u) (blk_ok hb3).2 C.n3 0 (nextL I u S u ++ (lst S.n2 S.L2).drop 13) (lst S.n3 S.L3)
    have e1 : verd (f.p + 1) (homeU mp u f (lst S.n2 S.L2) (lst S.n3 S.L3) (lst S.n1 S.L1)) = finB C I (u : Int) S := by
      rw [hU, g.p]
      unfold verd finB
      rw [if_neg (by rw [hok]; simp [hp] : ¬ (okSt C I (u : Int) S = false ∨ S.p = -1)), if_neg hr, Int.toNat_natCast]
      by_cases ha : anyB S.n1 (fun i => S.L1 i == 1) = true
      · rw [if_pos ha, if_pos ha, if_neg (by omega)]
      · rw [if_neg ha, if_neg ha]
        change lastR C I u S = -1 ∨ 1 ≤ lastR C I u S at hx
        by_cases h0 : 0 ≤ lastR C I u S
        · rw [if_pos h0, if_neg (by omega)]
        · rw [if_neg h0, if_pos (by omega)]
    rw [e1]
end Go.Proofs.YtgooegcmgejfpaaGreatDoor.Mac
