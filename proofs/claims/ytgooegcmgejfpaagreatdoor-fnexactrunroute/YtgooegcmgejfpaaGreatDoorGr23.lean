import Derived.Test.YtgooegcmgejfpaaGreatDoorGr08
import Derived.Deep.RegionHeld3
import Derived.Deep.DrawnRows
import Derived.Deep.CutRange
import Derived.Deep.Cut
import Derived.Deep.DeepCutAuto
namespace Go.Proofs.YtgooegcmgejfpaaGreatDoor.Mac
open Go Go.RowKit Go.Proofs.YtgooegcmgejfpaaGreatDoor.Mem
set_option linter.unusedVariables false
set_option linter.unusedSimpArgs false
attribute [local go_sem ↓] Go.wp_at_zero Go.wp_at_succ

theorem li_cells {w : World} {g n : Nat} {cs : Array Value} {t : TypeId} {fr : Nat × Nat} {l : List Int} (hb : w.heap[g]? = some (.cells cs t fr)) (hn : n = l.length) (h : ∀ i, i < n → cs[i]? = some (.int .i64 (l.getD i 0))) : ∀ i, i < l.length → w.rangeAt g (0 + i * 1) ((fun i => ci ((fun i => l.getD i 0) i)) i) := by
  intro i hi j u hj
  obtain ⟨rfl, rfl⟩ : j = 0 ∧ u = .int .i64 (l.getD i 0) := by
    cases j with
    | zero => simp [ci] at hj; exact ⟨rfl, hj.symm⟩
    | succ j => simp [ci] at hj
  rw [blk_cell hb]
  simp only [Nat.mul_one, Nat.zero_add, Nat.add_zero]
  exact h i (by omega)
set_option maxHeartbeats 1600000 in
set_option maxRecDepth 100000 in
theorem overS (a b : Option Addr) (n c d : Nat) (l at' : List Int) (w : World) (hn : n = l.length) (hm : at'.length = 13) (h : Li w a l) (h' : Li w b at') (h13 : 13 ≤ n) (hc : n ≤ c) (hN : n ≤ 1048576) :
    Calls Tryz.prog 39 #[.slice a n c, .slice b 13 d] w fun e w' => ∃ g c', e = .returned (.slice (some ⟨g, 0, none⟩) n c') ∧ Li w' (some ⟨g, 0, none⟩) (at' ++ l.drop 13) ∧ Below w.heap.size w w' ∧ w.heap.size ≤ g ∧ n ≤ c' := by
  obtain ⟨i0, hi, hz0, hz1, hz2⟩ := info_parts infoIn
  have HN := Hid.mk hn
  have HM := Hid.mk hm
  rcases h with h | ⟨g1, o1, rfl, h⟩
  · omega
  rcases h' with h' | ⟨g2, o2, rfl, h'⟩
  · omega
  have H1 := Hid.mk h
  have H2 := Hid.mk h'
  clear h h' hn hm
  have N1 : Hid (∀ w', Below w.heap.size w w' → ∀ j u, (icells at')[j]? = some u → w'.cell? ((⟨g2, o2, none⟩ : Addr).add j) = some u) := fun w' hb j u hj => by
    obtain ⟨h1, rfl⟩ := icells_get at' j u hj
    have := ci.at (rangeAt_below (H2.out j h1) hb)
    rw [Nat.mul_one] at this
    rw [Addr.add_mid]
    exact this
  have N2 : Hid (∀ w', Below w.heap.size w w' → ∀ j u, (icells (l.drop 13))[j]? = some u → w'.cell? ((⟨g1, o1 + 13, none⟩ : Addr).add j) = some u) := fun w' hb j u hj => by
    obtain ⟨h1, rfl⟩ := icells_get (l.drop 13) j u hj
    rw [List.length_drop] at h1
    have := ci.at (rangeAt_below (H1.out (13 + j) (by omega)) hb)
    rw [Nat.mul_one] at this
    rw [Addr.add_mid, Nat.add_assoc, this]
    simp [List.getD_eq_getElem?_getD]
  have L2 : Hid ((icells (l.drop 13)).length = (n - 13) * 1) := by unfold Hid; simp [icells, HN.out]
  have hu : ¬ ((n : Int) < 13) := by omega
  have hu2 : (13 : Int) ≤ (n : Int) := by omega
  have hu3 : (n : Int) ≤ (c : Int) := by omega
  have ht : ((n : Int) - 13).toNat = n - 13 := by omega
  have ht2 : ((c : Int) - 13).toNat = c - 13 := by omega
  by_cases hx : c = 13
  · obtain rfl : n = 13 := by omega
    subst hx
    have N2 : Hid (∀ w', Below w.heap.size w w' → ∀ j u, (icells (l.drop 13))[j]? = some u → w'.cell? ((⟨g1, o1, none⟩ : Addr).add j) = some u) := fun w' hb j u hj => by
      obtain ⟨h1, -⟩ := icells_get (l.drop 13) j u hj
      have := HN.out
      rw [List.length_drop] at h1
      omega
    clear hu hu2 hu3 ht ht2 h13 hc
    go_enter Tryz.func39, Tryz.ntmps39
    go_upto_region 1 with fail
    refine wp_region_held_drew (S := (fun _ => True)) (by kernel_rfl) ?_ (fun hHeld => ?_)
    · exact trivial
    refine wpAnyH_take (i := 1) (v := ?_) rfl (by kernel_rfl) (by kernel_rfl) (by kernel_rfl) (fun _ _ _ h => h) (Or.inl ⟨by rfl, ?_⟩) (by assumption) ?_
    rotate_left
    · intro w hSw; (try dsimp only at hSw); go_simp; (try with_reducible rfl)
    rotate_left
    simp only [Act.put, List.setIfInBounds_toArray, List.set_cons_zero, List.set_cons_succ, List.getElem_toArray, List.getElem_cons_zero, List.getElem_cons_succ]
    refine wpAnyH_take (i := 3) (v := ?_) rfl (by kernel_rfl) (by kernel_rfl) (by kernel_rfl) (fun _ _ _ h => h) (Or.inl ⟨by rfl, ?_⟩) (by assumption) ?_
    rotate_left
    · intro w hSw; (try dsimp only at hSw); go_simp; (try with_reducible rfl)
    rotate_left
    simp only [Act.put, List.setIfInBounds_toArray, List.set_cons_zero, List.set_cons_succ, List.getElem_toArray, List.getElem_cons_zero, List.getElem_cons_succ]
    refine wpAnyH_take (i := 4) (v := ?_) rfl (by kernel_rfl) (by kernel_rfl) (by kernel_rfl) (fun _ _ _ h => h) (Or.inl ⟨by rfl, ?_⟩) (by assumption) ?_
    rotate_left
    · intro w hSw; (try dsimp only at hSw); go_simp; (try with_reducible rfl)
    rotate_left
    simp only [Act.put, List.setIfInBounds_toArray, List.set_cons_zero, List.set_cons_succ, List.getElem_toArray, List.getElem_cons_zero, List.getElem_cons_succ]
    refine wpAnyH_ready (rs := [0]) (by kernel_rfl) (by simp) ?_
    refine AllReadyH.cons rfl (fun K hK => ?_) ?_
    · go_simp
      refine hK.out _ _ ?_ (fun hHeld => ?_)
      · exact trivial
      clear hK K
      (try simp only [Act.put, List.setIfInBounds_toArray, List.set_cons_zero, List.set_cons_succ, List.getElem_toArray, List.getElem_cons_zero, List.getElem_cons_succ])
      refine wpAnyH_ready (rs := [2]) (by kernel_rfl) (by simp) ?_
      refine AllReadyH.cons rfl (fun K hK => ?_) ?_
      · rw [if_pos (by rfl)]
        refine wp_append_own _ _ _ 32 rfl w.heap.size 2 i0 (.int .i64 0) 1 8 Tryz.underlying32 hi hz0 hz1 hz2 rfl (by decide) _ _ _ rfl (own_nil _) ⟨g2, o2, none⟩ 13 d (icells at') rfl (by simp [icells, HM.out]) (N1.out _ (by go_grown)) (icells_one at') (by unfold maxLen; omega) (by omega) (by simp) ?_
        intro v2 w2 hown hgrow _
        have hg1 : (w.alloc (.cells #[] 2)).grownBy w2 (Value.slice (some ⟨w.heap.size, 0, none⟩) 0 0).ownBlock := ⟨hgrow.os, hgrow.tape, hgrow.output, hgrow.size, hgrow.block⟩
        have B2 : Hid (Below w.heap.size w w2) := ((Below.refl _ _).alloc (Nat.le_refl _) _).grown hg1 (by simp) (fun q hq => by simp [Value.ownBlock] at hq; omega)
        have O2 : Hid (w2.ownsRow w.heap.size 2 1 v2 13 (icells at')) := by unfold Hid; rw [show icells [] ++ icells at' = icells at' from rfl] at hown; exact hown
        have hs2 := B2.out.size
        clear hown hgrow hg1
        refine hK.out _ _ ?_ (fun hHeld => ?_)
        · exact trivial
        clear hK K
        (try simp only [Act.put, List.setIfInBounds_toArray, List.set_cons_zero, List.set_cons_succ, List.getElem_toArray, List.getElem_cons_zero, List.getElem_cons_succ])
        refine wpAnyH_ready (rs := [5]) (by kernel_rfl) (by simp) ?_
        refine AllReadyH.cons rfl (fun K hK => ?_) ?_
        · rw [if_pos (by rfl)]
          refine wp_append_own _ _ _ 32 rfl w.heap.size 2 i0 (.int .i64 0) 1 8 Tryz.underlying32 hi hz0 hz1 hz2 rfl (by decide) _ _ _ rfl (O2.out) ⟨g1, o1, none⟩ 0 0 (icells (l.drop 13)) rfl L2.out (N2.out _ B2.out) (icells_one _) (by unfold maxLen; omega) (by omega) (by exact hs2) ?_
          intro v4 w4 hown hgrow _
          have hg2 : w2.grownBy w4 v2.ownBlock := ⟨hgrow.os, hgrow.tape, hgrow.output, hgrow.size, hgrow.block⟩
          have B4 : Hid (Below w.heap.size w w4) := B2.out.grown hg2 hs2 (fun j hj => (O2.out.lt j hj).1)
          have O4 : Hid (w4.ownsRow w.heap.size 2 1 v4 13 (icells (at' ++ l.drop 13))) := by unfold Hid; rw [show icells (at' ++ l.drop 13) = icells at' ++ icells (l.drop 13) by simp [icells], show 13 = 13 + (0) by omega]; exact hown
          have hcp := own_cap O4.out
          obtain ⟨g, c2, cs, rfl, hg, hblk, hsz, hcs⟩ := own_li (n := 13) (by omega) (by have := HN.out; have := HM.out; simp; omega) O4.out
          have HCP := Hid.mk (hcp _ _ _ rfl)
          clear hcp
          have HG := Hid.mk hg
          have HBK := Hid.mk hblk
          have HC := Hid.mk hcs
          clear hown hgrow hg2 hg hblk hcs hsz O4 O2 B2 hs2
          refine hK.out _ _ ?_ (fun hHeld => ?_)
          · exact trivial
          clear hK K
          (try simp only [Act.put, List.setIfInBounds_toArray, List.set_cons_zero, List.set_cons_succ, List.getElem_toArray, List.getElem_cons_zero, List.getElem_cons_succ])
          refine wpAnyH_ready (rs := [6]) (by kernel_rfl) (by simp) ?_
          refine AllReadyH.cons rfl (fun K hK => ?_) ?_
          · go_simp
            refine hK.out _ _ ?_ (fun hHeld => ?_)
            · exact trivial
            clear hK K
            (try simp only [Act.put, List.setIfInBounds_toArray, List.set_cons_zero, List.set_cons_succ, List.getElem_toArray, List.getElem_cons_zero, List.getElem_cons_succ])
            refine wpAnyH_done (by kernel_rfl) ?_ _
            go_wp2
            go_ret
            exact ⟨g, c2, rfl, Or.inr ⟨g, 0, rfl, li_cells HBK.out (n := 13) (by have := HN.out; have := HM.out; simp; omega) HC.out⟩, B4.out, HG.out, HCP.out⟩
          exact AllReadyH.nil
        exact AllReadyH.nil
      exact AllReadyH.nil
    exact AllReadyH.nil
  · have hx2 : ¬ (c - 13 = 0) := by omega
    have hx3 : ¬ ((c : Int) = 13) := by omega
    go_enter Tryz.func39, Tryz.ntmps39
    go_upto_region 1 with fail
    refine wp_region_held_drew (S := (fun _ => True)) (by kernel_rfl) ?_ (fun hHeld => ?_)
    · exact trivial
    refine wpAnyH_take (i := 1) (v := ?_) rfl (by kernel_rfl) (by kernel_rfl) (by kernel_rfl) (fun _ _ _ h => h) (Or.inl ⟨by rfl, ?_⟩) (by assumption) ?_
    rotate_left
    · intro w hSw; (try dsimp only at hSw); go_simp; (try with_reducible rfl)
    rotate_left
    simp only [Act.put, List.setIfInBounds_toArray, List.set_cons_zero, List.set_cons_succ, List.getElem_toArray, List.getElem_cons_zero, List.getElem_cons_succ]
    refine wpAnyH_take (i := 3) (v := ?_) rfl (by kernel_rfl) (by kernel_rfl) (by kernel_rfl) (fun _ _ _ h => h) (Or.inl ⟨by rfl, ?_⟩) (by assumption) ?_
    rotate_left
    · intro w hSw; (try dsimp only at hSw); go_simp; (try with_reducible rfl)
    rotate_left
    simp only [Act.put, List.setIfInBounds_toArray, List.set_cons_zero, List.set_cons_succ, List.getElem_toArray, List.getElem_cons_zero, List.getElem_cons_succ]
    refine wpAnyH_take (i := 4) (v := ?_) rfl (by kernel_rfl) (by kernel_rfl) (by kernel_rfl) (fun _ _ _ h => h) (Or.inl ⟨by rfl, ?_⟩) (by assumption) ?_
    rotate_left
    · intro w hSw; (try dsimp only at hSw); go_simp; (try with_reducible rfl)
    rotate_left
    simp only [Act.put, List.setIfInBounds_toArray, List.set_cons_zero, List.set_cons_succ, List.getElem_toArray, List.getElem_cons_zero, List.getElem_cons_succ]
    refine wpAnyH_ready (rs := [0]) (by kernel_rfl) (by simp) ?_
    refine AllReadyH.cons rfl (fun K hK => ?_) ?_
    · go_simp
      refine hK.out _ _ ?_ (fun hHeld => ?_)
      · exact trivial
      clear hK K
      (try simp only [Act.put, List.setIfInBounds_toArray, List.set_cons_zero, List.set_cons_succ, List.getElem_toArray, List.getElem_cons_zero, List.getElem_cons_succ])
      refine wpAnyH_ready (rs := [2]) (by kernel_rfl) (by simp) ?_
      refine AllReadyH.cons rfl (fun K hK => ?_) ?_
      · rw [if_pos (by rfl)]
        refine wp_append_own _ _ _ 32 rfl w.heap.size 2 i0 (.int .i64 0) 1 8 Tryz.underlying32 hi hz0 hz1 hz2 rfl (by decide) _ _ _ rfl (own_nil _) ⟨g2, o2, none⟩ 13 d (icells at') rfl (by simp [icells, HM.out]) (N1.out _ (by go_grown)) (icells_one at') (by unfold maxLen; omega) (by omega) (by simp) ?_
        intro v2 w2 hown hgrow _
        have hg1 : (w.alloc (.cells #[] 2)).grownBy w2 (Value.slice (some ⟨w.heap.size, 0, none⟩) 0 0).ownBlock := ⟨hgrow.os, hgrow.tape, hgrow.output, hgrow.size, hgrow.block⟩
        have B2 : Hid (Below w.heap.size w w2) := ((Below.refl _ _).alloc (Nat.le_refl _) _).grown hg1 (by simp) (fun q hq => by simp [Value.ownBlock] at hq; omega)
        have O2 : Hid (w2.ownsRow w.heap.size 2 1 v2 13 (icells at')) := by unfold Hid; rw [show icells [] ++ icells at' = icells at' from rfl] at hown; exact hown
        have hs2 := B2.out.size
        clear hown hgrow hg1
        refine hK.out _ _ ?_ (fun hHeld => ?_)
        · exact trivial
        clear hK K
        (try simp only [Act.put, List.setIfInBounds_toArray, List.set_cons_zero, List.set_cons_succ, List.getElem_toArray, List.getElem_cons_zero, List.getElem_cons_succ])
        refine wpAnyH_ready (rs := [5]) (by kernel_rfl) (by simp) ?_
        refine AllReadyH.cons rfl (fun K hK => ?_) ?_
        · rw [if_pos (by rfl)]
          refine wp_append_own _ _ _ 32 rfl w.heap.size 2 i0 (.int .i64 0) 1 8 Tryz.underlying32 hi hz0 hz1 hz2 rfl (by decide) _ _ _ rfl (O2.out) ⟨g1, o1 + 13, none⟩ (n - 13) (c - 13) (icells (l.drop 13)) rfl L2.out (N2.out _ B2.out) (icells_one _) (by unfold maxLen; omega) (by omega) (by exact hs2) ?_
          intro v4 w4 hown hgrow _
          have hg2 : w2.grownBy w4 v2.ownBlock := ⟨hgrow.os, hgrow.tape, hgrow.output, hgrow.size, hgrow.block⟩
          have B4 : Hid (Below w.heap.size w w4) := B2.out.grown hg2 hs2 (fun j hj => (O2.out.lt j hj).1)
          have O4 : Hid (w4.ownsRow w.heap.size 2 1 v4 n (icells (at' ++ l.drop 13))) := by unfold Hid; rw [show icells (at' ++ l.drop 13) = icells at' ++ icells (l.drop 13) by simp [icells], show n = 13 + ((n - 13)) by omega]; exact hown
          have hcp := own_cap O4.out
          obtain ⟨g, c2, cs, rfl, hg, hblk, hsz, hcs⟩ := own_li (n := n) (by omega) (by have := HN.out; have := HM.out; simp; omega) O4.out
          have HCP := Hid.mk (hcp _ _ _ rfl)
          clear hcp
          have HG := Hid.mk hg
          have HBK := Hid.mk hblk
          have HC := Hid.mk hcs
          clear hown hgrow hg2 hg hblk hcs hsz O4 O2 B2 hs2
          refine hK.out _ _ ?_ (fun hHeld => ?_)
          · exact trivial
          clear hK K
          (try simp only [Act.put, List.setIfInBounds_toArray, List.set_cons_zero, List.set_cons_succ, List.getElem_toArray, List.getElem_cons_zero, List.getElem_cons_succ])
          refine wpAnyH_ready (rs := [6]) (by kernel_rfl) (by simp) ?_
          refine AllReadyH.cons rfl (fun K hK => ?_) ?_
          · go_simp
            refine hK.out _ _ ?_ (fun hHeld => ?_)
            · exact trivial
            clear hK K
            (try simp only [Act.put, List.setIfInBounds_toArray, List.set_cons_zero, List.set_cons_succ, List.getElem_toArray, List.getElem_cons_zero, List.getElem_cons_succ])
            refine wpAnyH_done (by kernel_rfl) ?_ _
            go_wp2
            go_ret
            exact ⟨g, c2, rfl, Or.inr ⟨g, 0, rfl, li_cells HBK.out (n := n) (by have := HN.out; have := HM.out; simp; omega) HC.out⟩, B4.out, HG.out, HCP.out⟩
          exact AllReadyH.nil
        exact AllReadyH.nil
      exact AllReadyH.nil
    exact AllReadyH.nil
end Go.Proofs.YtgooegcmgejfpaaGreatDoor.Mac
