import Derived.Test.YtgooegcmgejfpaaGreatDoorGr08
import Derived.Deep.DrawnRows
import Derived.StillTailTactics
namespace Go.Proofs.YtgooegcmgejfpaaGreatDoor.Mac
open Go Go.RowKit Go.Proofs.YtgooegcmgejfpaaGreatDoor.Mem
open Go.Proofs.YtgooegcmgejfpaaGreatDoor.Arith (cl cl_bd sadd smul addS mulS addI mulI ret_int)
set_option linter.unusedVariables false
set_option linter.unusedSimpArgs false
attribute [local go_sem ↓] Go.wp_at_zero Go.wp_at_succ

set_option maxHeartbeats 1600000 in
set_option maxRecDepth 100000 in
theorem constI (B F : Nat) (f : Fr) (r s : List Int) (w : World) (h : Ok w F f r s) (hB : B ≤ w.heap.size) (bF : B ≤ F) (bR : B ≤ f.gR) (bS : B ≤ f.gS) (hn : f.nr ≤ 1000) (p b c : Int) (m : Nat) (hm : m < f.nr) :
    Calls Tryz.prog 138 #[.pointer (some ⟨F, 0, none⟩), .agg #[.int .i64 p, .int .i64 (m : Int), .int .i64 b, .int .i64 c]] w fun e w' => (∃ v, e = .returned v) ∧ Ok w' F f (r.set m b) s ∧ Oth B F f.gR f.gS w w' := by
  have H := Hid.mk h
  clear h
  have m0 : (0 : Int) ≤ (m : Int) := by omega
  have m1 : (m : Int) < (f.nr : Int) := by omega
  go_enter Tryz.func138, Tryz.ntmps138
  go_wp2_with fail
  obtain ⟨W, hW⟩ : ∃ W, W = w.alloc (.cells #[.int .i64 p, .int .i64 (m : Int), .int .i64 b, .int .i64 c] 133) := ⟨_, rfl⟩
  rw [← hW]
  have HO : Hid (Ok W F f r s) := by unfold Hid; rw [hW]; exact H.out.below (by go_grown)
  have HT : Hid (Oth B F f.gR f.gS w W) := by unfold Hid; rw [hW]; exact Oth.of_below (by go_grown) hB
  have KX : Hid (W.heap[w.heap.size]? = some (.cells #[.int .i64 p, .int .i64 (m : Int), .int .i64 b, .int .i64 c] 133)) := by unfold Hid; rw [hW]; exact blk_new _ _
  have hBW : B ≤ W.heap.size := by rw [hW, World.size_alloc]; omega
  clear hW
  have y7 := blk_cell HO.out.hF 7
  have x1 := blk_cell KX.out 1
  have x2 := blk_cell KX.out 2
  simp only [frC, List.getElem?_toArray, List.getElem?_cons_zero, List.getElem?_cons_succ] at y7 x1 x2
  obtain ⟨d0, d1⟩ := HO.out.hr m (by rw [← H.out.nr]; exact hm)
  go_still_tail 10, (by kernel_rfl)
  go_wp2
  go_end0
  exact ⟨⟨_, rfl⟩, (HO.out.below (w' := W.drew) (Below.refl _ _).drew).setR (by rw [← H.out.nr]; exact hm) b, (HT.out.trans (Oth.of_below (b := W.drew) (Below.refl _ _).drew hBW)).set bR (Or.inr (Or.inl rfl)) _⟩

set_option maxHeartbeats 1600000 in
set_option maxRecDepth 100000 in
theorem moveI (B F : Nat) (f : Fr) (r s : List Int) (w : World) (h : Ok w F f r s) (hB : B ≤ w.heap.size) (bF : B ≤ F) (bR : B ≤ f.gR) (bS : B ≤ f.gS) (hn : f.nr ≤ 1000) (p c : Int) (m k : Nat) (hm : m < f.nr) (hk : k < f.nr) (hbd : -1000000000 ≤ r.getD k 0 ∧ r.getD k 0 ≤ 1000000000) :
    Calls Tryz.prog 139 #[.pointer (some ⟨F, 0, none⟩), .agg #[.int .i64 p, .int .i64 (m : Int), .int .i64 (k : Int), .int .i64 c]] w fun e w' => (∃ v, e = .returned v) ∧ Ok w' F f (r.set m (r.getD k 0)) s ∧ Oth B F f.gR f.gS w w' := by
  have H := Hid.mk h
  clear h
  obtain ⟨A, hA⟩ : ∃ A, A = r.getD k 0 := ⟨_, rfl⟩
  have HA := Hid.mk hA
  rw [← hA] at hbd ⊢
  clear hA
  have m0 : (0 : Int) ≤ (m : Int) := by omega
  have m1 : (m : Int) < (f.nr : Int) := by omega
  have k0 : (0 : Int) ≤ (k : Int) := by omega
  have k1 : (k : Int) < (f.nr : Int) := by omega
  go_enter Tryz.func139, Tryz.ntmps139
  go_wp2_with fail
  obtain ⟨W, hW⟩ : ∃ W, W = w.alloc (.cells #[.int .i64 p, .int .i64 (m : Int), .int .i64 (k : Int), .int .i64 c] 133) := ⟨_, rfl⟩
  rw [← hW]
  have HO : Hid (Ok W F f r s) := by unfold Hid; rw [hW]; exact H.out.below (by go_grown)
  have HT : Hid (Oth B F f.gR f.gS w W) := by unfold Hid; rw [hW]; exact Oth.of_below (by go_grown) hB
  have KX : Hid (W.heap[w.heap.size]? = some (.cells #[.int .i64 p, .int .i64 (m : Int), .int .i64 (k : Int), .int .i64 c] 133)) := by unfold Hid; rw [hW]; exact blk_new _ _
  have hBW : B ≤ W.heap.size := by rw [hW, World.size_alloc]; omega
  clear hW
  have y7 := blk_cell HO.out.hF 7
  have x1 := blk_cell KX.out 1
  have x2 := blk_cell KX.out 2
  simp only [frC, List.getElem?_toArray, List.getElem?_cons_zero, List.getElem?_cons_succ] at y7 x1 x2
  obtain ⟨d0, d1⟩ := HO.out.hr m (by rw [← H.out.nr]; exact hm)
  obtain ⟨e0, -⟩ := HO.out.hr k (by rw [← H.out.nr]; exact hk)
  rw [← HA.out] at e0
  go_still_tail 17, (by kernel_rfl)
  go_wp2
  go_end0
  exact ⟨⟨_, rfl⟩, (HO.out.below (w' := W.drew) (Below.refl _ _).drew).setR (by rw [← H.out.nr]; exact hm) _, (HT.out.trans (Oth.of_below (b := W.drew) (Below.refl _ _).drew hBW)).set bR (Or.inr (Or.inl rfl)) _⟩

set_option maxHeartbeats 1600000 in
set_option maxRecDepth 100000 in
theorem negI (B F : Nat) (f : Fr) (r s : List Int) (w : World) (h : Ok w F f r s) (hB : B ≤ w.heap.size) (bF : B ≤ F) (bR : B ≤ f.gR) (bS : B ≤ f.gS) (hn : f.nr ≤ 1000) (p c : Int) (m k : Nat) (hm : m < f.nr) (hk : k < f.nr) (hbd : -1000000000 ≤ r.getD k 0 ∧ r.getD k 0 ≤ 1000000000) :
    Calls Tryz.prog 140 #[.pointer (some ⟨F, 0, none⟩), .agg #[.int .i64 p, .int .i64 (m : Int), .int .i64 (k : Int), .int .i64 c]] w fun e w' => (∃ v, e = .returned v) ∧ Ok w' F f (r.set m ((-r.getD k 0))) s ∧ Oth B F f.gR f.gS w w' := by
  have H := Hid.mk h
  clear h
  obtain ⟨A, hA⟩ : ∃ A, A = r.getD k 0 := ⟨_, rfl⟩
  have HA := Hid.mk hA
  rw [← hA] at hbd ⊢
  clear hA
  have m0 : (0 : Int) ≤ (m : Int) := by omega
  have m1 : (m : Int) < (f.nr : Int) := by omega
  have k0 : (0 : Int) ≤ (k : Int) := by omega
  have k1 : (k : Int) < (f.nr : Int) := by omega
  go_enter Tryz.func140, Tryz.ntmps140
  go_wp2_with fail
  obtain ⟨W, hW⟩ : ∃ W, W = w.alloc (.cells #[.int .i64 p, .int .i64 (m : Int), .int .i64 (k : Int), .int .i64 c] 133) := ⟨_, rfl⟩
  rw [← hW]
  have HO : Hid (Ok W F f r s) := by unfold Hid; rw [hW]; exact H.out.below (by go_grown)
  have HT : Hid (Oth B F f.gR f.gS w W) := by unfold Hid; rw [hW]; exact Oth.of_below (by go_grown) hB
  have KX : Hid (W.heap[w.heap.size]? = some (.cells #[.int .i64 p, .int .i64 (m : Int), .int .i64 (k : Int), .int .i64 c] 133)) := by unfold Hid; rw [hW]; exact blk_new _ _
  have hBW : B ≤ W.heap.size := by rw [hW, World.size_alloc]; omega
  clear hW
  have y7 := blk_cell HO.out.hF 7
  have x1 := blk_cell KX.out 1
  have x2 := blk_cell KX.out 2
  simp only [frC, List.getElem?_toArray, List.getElem?_cons_zero, List.getElem?_cons_succ] at y7 x1 x2
  obtain ⟨d0, d1⟩ := HO.out.hr m (by rw [← H.out.nr]; exact hm)
  obtain ⟨e0, -⟩ := HO.out.hr k (by rw [← H.out.nr]; exact hk)
  rw [← HA.out] at e0
  go_still_tail 18, (by kernel_rfl)
  go_wp2
  go_end0
  exact ⟨⟨_, rfl⟩, (HO.out.below (w' := W.drew) (Below.refl _ _).drew).setR (by rw [← H.out.nr]; exact hm) _, (HT.out.trans (Oth.of_below (b := W.drew) (Below.refl _ _).drew hBW)).set bR (Or.inr (Or.inl rfl)) _⟩

set_option maxHeartbeats 1600000 in
set_option maxRecDepth 100000 in
theorem notI (B F : Nat) (f : Fr) (r s : List Int) (w : World) (h : Ok w F f r s) (hB : B ≤ w.heap.size) (bF : B ≤ F) (bR : B ≤ f.gR) (bS : B ≤ f.gS) (hn : f.nr ≤ 1000) (p c : Int) (m k : Nat) (hm : m < f.nr) (hk : k < f.nr) :
    Calls Tryz.prog 141 #[.pointer (some ⟨F, 0, none⟩), .agg #[.int .i64 p, .int .i64 (m : Int), .int .i64 (k : Int), .int .i64 c]] w fun e w' => (∃ v, e = .returned v) ∧ Ok w' F f (r.set m (bit (r.getD k 0 == 0))) s ∧ Oth B F f.gR f.gS w w' := by
  have H := Hid.mk h
  clear h
  obtain ⟨A, hA⟩ : ∃ A, A = r.getD k 0 := ⟨_, rfl⟩
  have HA := Hid.mk hA
  rw [← hA]
  clear hA
  have m0 : (0 : Int) ≤ (m : Int) := by omega
  have m1 : (m : Int) < (f.nr : Int) := by omega
  have k0 : (0 : Int) ≤ (k : Int) := by omega
  have k1 : (k : Int) < (f.nr : Int) := by omega
  go_enter Tryz.func141, Tryz.ntmps141
  go_wp2_with fail
  obtain ⟨W, hW⟩ : ∃ W, W = w.alloc (.cells #[.int .i64 p, .int .i64 (m : Int), .int .i64 (k : Int), .int .i64 c] 133) := ⟨_, rfl⟩
  rw [← hW]
  have HO : Hid (Ok W F f r s) := by unfold Hid; rw [hW]; exact H.out.below (by go_grown)
  have HT : Hid (Oth B F f.gR f.gS w W) := by unfold Hid; rw [hW]; exact Oth.of_below (by go_grown) hB
  have KX : Hid (W.heap[w.heap.size]? = some (.cells #[.int .i64 p, .int .i64 (m : Int), .int .i64 (k : Int), .int .i64 c] 133)) := by unfold Hid; rw [hW]; exact blk_new _ _
  have hBW : B ≤ W.heap.size := by rw [hW, World.size_alloc]; omega
  clear hW
  have y7 := blk_cell HO.out.hF 7
  have x1 := blk_cell KX.out 1
  have x2 := blk_cell KX.out 2
  simp only [frC, List.getElem?_toArray, List.getElem?_cons_zero, List.getElem?_cons_succ] at y7 x1 x2
  obtain ⟨d0, d1⟩ := HO.out.hr m (by rw [← H.out.nr]; exact hm)
  obtain ⟨e0, -⟩ := HO.out.hr k (by rw [← H.out.nr]; exact hk)
  rw [← HA.out] at e0
  go_still_tail 19, (by kernel_rfl)
  still_call (bitI _ _)
  repeat still_step
  refine wpStill_nil ?_
  go_wp2
  go_end0
  exact ⟨⟨_, rfl⟩, (HO.out.below (w' := W.drew) (Below.refl _ _).drew).setR (by rw [← H.out.nr]; exact hm) _, (HT.out.trans (Oth.of_below (b := W.drew) (Below.refl _ _).drew hBW)).set bR (Or.inr (Or.inl rfl)) _⟩

set_option maxHeartbeats 1600000 in
set_option maxRecDepth 100000 in
theorem pair5 (B F : Nat) (f : Fr) (r s : List Int) (w : World) (h : Ok w F f r s) (hB : B ≤ w.heap.size) (bF : B ≤ F) (bR : B ≤ f.gR) (bS : B ≤ f.gS) (hn : f.nr ≤ 1000) (p : Int) (m k j : Nat) (hm : m < f.nr) (hk : k < f.nr) (hj : j < f.nr) (A A' : Int) (hA : A = r.getD k 0) (hA' : A' = r.getD j 0) (g : Nat) (hg : w.cell? ⟨g, 0, none⟩ = some (.func (.func 144) #[] #[])) (a0 : -1000000000 ≤ A) (a1 : A ≤ 1000000000) (b0 : -1000000000 ≤ A') (b1 : A' ≤ 1000000000) :
    Calls Tryz.prog 176 #[.pointer (some ⟨F, 0, none⟩), .agg #[.int .i64 p, .int .i64 (m : Int), .int .i64 (k : Int), .int .i64 (j : Int)], .pointer (some ⟨g, 0, none⟩)] w fun e w' => (∃ v, e = .returned v) ∧ Ok w' F f (r.set m (smul A A')) s ∧ Oth B F f.gR f.gS w w' := by
  have H := Hid.mk h
  clear h
  have HA := Hid.mk hA
  have HA' := Hid.mk hA'
  clear hA hA'
  have m0 : (0 : Int) ≤ (m : Int) := by omega
  have m1 : (m : Int) < (f.nr : Int) := by omega
  have k0 : (0 : Int) ≤ (k : Int) := by omega
  have k1 : (k : Int) < (f.nr : Int) := by omega
  have j0 : (0 : Int) ≤ (j : Int) := by omega
  have j1 : (j : Int) < (f.nr : Int) := by omega
  go_enter Tryz.func176, Tryz.ntmps176
  go_wp2_with fail
  obtain ⟨W, hW⟩ : ∃ W, W = w.alloc (.cells #[.int .i64 p, .int .i64 (m : Int), .int .i64 (k : Int), .int .i64 (j : Int)] 133) := ⟨_, rfl⟩
  rw [← hW]
  have HO : Hid (Ok W F f r s) := by unfold Hid; rw [hW]; exact H.out.below (by go_grown)
  have HT : Hid (Oth B F f.gR f.gS w W) := by unfold Hid; rw [hW]; exact Oth.of_below (by go_grown) hB
  have KX : Hid (W.heap[w.heap.size]? = some (.cells #[.int .i64 p, .int .i64 (m : Int), .int .i64 (k : Int), .int .i64 (j : Int)] 133)) := by unfold Hid; rw [hW]; exact blk_new _ _
  have hBW : B ≤ W.heap.size := by rw [hW, World.size_alloc]; omega
  have g0 := cell_keep (show Below w.heap.size w W by rw [hW]; go_grown) hg
  clear hW hg
  have y7 := blk_cell HO.out.hF 7
  have x1 := blk_cell KX.out 1
  have x2 := blk_cell KX.out 2
  have x3 := blk_cell KX.out 3
  simp only [frC, List.getElem?_toArray, List.getElem?_cons_zero, List.getElem?_cons_succ] at y7 x1 x2 x3
  obtain ⟨d0, d1⟩ := HO.out.hr m (by rw [← H.out.nr]; exact hm)
  obtain ⟨e0, -⟩ := HO.out.hr k (by rw [← H.out.nr]; exact hk)
  obtain ⟨e1, -⟩ := HO.out.hr j (by rw [← H.out.nr]; exact hj)
  rw [← HA.out] at e0
  rw [← HA'.out] at e1
  go_still_tail 28, (by kernel_rfl)
  still_call (mulI A A' _)
  repeat still_step
  refine wpStill_nil ?_
  go_wp2
  go_end0
  exact ⟨⟨_, rfl⟩, (HO.out.below (w' := W.drew) (Below.refl _ _).drew).setR (by rw [← H.out.nr]; exact hm) _, (HT.out.trans (Oth.of_below (b := W.drew) (Below.refl _ _).drew hBW)).set bR (Or.inr (Or.inl rfl)) _⟩

set_option maxHeartbeats 1600000 in
set_option maxRecDepth 100000 in
theorem pair6 (B F : Nat) (f : Fr) (r s : List Int) (w : World) (h : Ok w F f r s) (hB : B ≤ w.heap.size) (bF : B ≤ F) (bR : B ≤ f.gR) (bS : B ≤ f.gS) (hn : f.nr ≤ 1000) (p : Int) (m k j : Nat) (hm : m < f.nr) (hk : k < f.nr) (hj : j < f.nr) (A A' : Int) (hA : A = r.getD k 0) (hA' : A' = r.getD j 0) (g : Nat) (hg : w.cell? ⟨g, 0, none⟩ = some (.func (.func 145) #[] #[])) (a0 : -1000000000 ≤ A) (a1 : A ≤ 1000000000) (b0 : -1000000000 ≤ A') (b1 : A' ≤ 1000000000) :
    Calls Tryz.prog 176 #[.pointer (some ⟨F, 0, none⟩), .agg #[.int .i64 p, .int .i64 (m : Int), .int .i64 (k : Int), .int .i64 (j : Int)], .pointer (some ⟨g, 0, none⟩)] w fun e w' => (∃ v, e = .returned v) ∧ Ok w' F f (r.set m (sadd A A')) s ∧ Oth B F f.gR f.gS w w' := by
  have H := Hid.mk h
  clear h
  have HA := Hid.mk hA
  have HA' := Hid.mk hA'
  clear hA hA'
  have m0 : (0 : Int) ≤ (m : Int) := by omega
  have m1 : (m : Int) < (f.nr : Int) := by omega
  have k0 : (0 : Int) ≤ (k : Int) := by omega
  have k1 : (k : Int) < (f.nr : Int) := by omega
  have j0 : (0 : Int) ≤ (j : Int) := by omega
  have j1 : (j : Int) < (f.nr : Int) := by omega
  go_enter Tryz.func176, Tryz.ntmps176
  go_wp2_with fail
  obtain ⟨W, hW⟩ : ∃ W, W = w.alloc (.cells #[.int .i64 p, .int .i64 (m : Int), .int .i64 (k : Int), .int .i64 (j : Int)] 133) := ⟨_, rfl⟩
  rw [← hW]
  have HO : Hid (Ok W F f r s) := by unfold Hid; rw [hW]; exact H.out.below (by go_grown)
  have HT : Hid (Oth B F f.gR f.gS w W) := by unfold Hid; rw [hW]; exact Oth.of_below (by go_grown) hB
  have KX : Hid (W.heap[w.heap.size]? = some (.cells #[.int .i64 p, .int .i64 (m : Int), .int .i64 (k : Int), .int .i64 (j : Int)] 133)) := by unfold Hid; rw [hW]; exact blk_new _ _
  have hBW : B ≤ W.heap.size := by rw [hW, World.size_alloc]; omega
  have g0 := cell_keep (show Below w.heap.size w W by rw [hW]; go_grown) hg
  clear hW hg
  have y7 := blk_cell HO.out.hF 7
  have x1 := blk_cell KX.out 1
  have x2 := blk_cell KX.out 2
  have x3 := blk_cell KX.out 3
  simp only [frC, List.getElem?_toArray, List.getElem?_cons_zero, List.getElem?_cons_succ] at y7 x1 x2 x3
  obtain ⟨d0, d1⟩ := HO.out.hr m (by rw [← H.out.nr]; exact hm)
  obtain ⟨e0, -⟩ := HO.out.hr k (by rw [← H.out.nr]; exact hk)
  obtain ⟨e1, -⟩ := HO.out.hr j (by rw [← H.out.nr]; exact hj)
  rw [← HA.out] at e0
  rw [← HA'.out] at e1
  go_still_tail 28, (by kernel_rfl)
  still_call (addI A A' _)
  repeat still_step
  refine wpStill_nil ?_
  go_wp2
  go_end0
  exact ⟨⟨_, rfl⟩, (HO.out.below (w' := W.drew) (Below.refl _ _).drew).setR (by rw [← H.out.nr]; exact hm) _, (HT.out.trans (Oth.of_below (b := W.drew) (Below.refl _ _).drew hBW)).set bR (Or.inr (Or.inl rfl)) _⟩

set_option maxHeartbeats 1600000 in
set_option maxRecDepth 100000 in
theorem pair7 (B F : Nat) (f : Fr) (r s : List Int) (w : World) (h : Ok w F f r s) (hB : B ≤ w.heap.size) (bF : B ≤ F) (bR : B ≤ f.gR) (bS : B ≤ f.gS) (hn : f.nr ≤ 1000) (p : Int) (m k j : Nat) (hm : m < f.nr) (hk : k < f.nr) (hj : j < f.nr) (A A' : Int) (hA : A = r.getD k 0) (hA' : A' = r.getD j 0) (g : Nat) (hg : w.cell? ⟨g, 0, none⟩ = some (.func (.func 146) #[] #[])) (a0 : -1000000000 ≤ A) (a1 : A ≤ 1000000000) (b0 : -1000000000 ≤ A') (b1 : A' ≤ 1000000000) :
    Calls Tryz.prog 176 #[.pointer (some ⟨F, 0, none⟩), .agg #[.int .i64 p, .int .i64 (m : Int), .int .i64 (k : Int), .int .i64 (j : Int)], .pointer (some ⟨g, 0, none⟩)] w fun e w' => (∃ v, e = .returned v) ∧ Ok w' F f (r.set m (sadd A (-A'))) s ∧ Oth B F f.gR f.gS w w' := by
  have H := Hid.mk h
  clear h
  have HA := Hid.mk hA
  have HA' := Hid.mk hA'
  clear hA hA'
  have m0 : (0 : Int) ≤ (m : Int) := by omega
  have m1 : (m : Int) < (f.nr : Int) := by omega
  have k0 : (0 : Int) ≤ (k : Int) := by omega
  have k1 : (k : Int) < (f.nr : Int) := by omega
  have j0 : (0 : Int) ≤ (j : Int) := by omega
  have j1 : (j : Int) < (f.nr : Int) := by omega
  go_enter Tryz.func176, Tryz.ntmps176
  go_wp2_with fail
  obtain ⟨W, hW⟩ : ∃ W, W = w.alloc (.cells #[.int .i64 p, .int .i64 (m : Int), .int .i64 (k : Int), .int .i64 (j : Int)] 133) := ⟨_, rfl⟩
  rw [← hW]
  have HO : Hid (Ok W F f r s) := by unfold Hid; rw [hW]; exact H.out.below (by go_grown)
  have HT : Hid (Oth B F f.gR f.gS w W) := by unfold Hid; rw [hW]; exact Oth.of_below (by go_grown) hB
  have KX : Hid (W.heap[w.heap.size]? = some (.cells #[.int .i64 p, .int .i64 (m : Int), .int .i64 (k : Int), .int .i64 (j : Int)] 133)) := by unfold Hid; rw [hW]; exact blk_new _ _
  have hBW : B ≤ W.heap.size := by rw [hW, World.size_alloc]; omega
  have g0 := cell_keep (show Below w.heap.size w W by rw [hW]; go_grown) hg
  clear hW hg
  have y7 := blk_cell HO.out.hF 7
  have x1 := blk_cell KX.out 1
  have x2 := blk_cell KX.out 2
  have x3 := blk_cell KX.out 3
  simp only [frC, List.getElem?_toArray, List.getElem?_cons_zero, List.getElem?_cons_succ] at y7 x1 x2 x3
  obtain ⟨d0, d1⟩ := HO.out.hr m (by rw [← H.out.nr]; exact hm)
  obtain ⟨e0, -⟩ := HO.out.hr k (by rw [← H.out.nr]; exact hk)
  obtain ⟨e1, -⟩ := HO.out.hr j (by rw [← H.out.nr]; exact hj)
  rw [← HA.out] at e0
  rw [← HA'.out] at e1
  go_still_tail 28, (by kernel_rfl)
  still_call (subI A A' _ a0 a1 b0 b1)
  repeat still_step
  refine wpStill_nil ?_
  go_wp2
  go_end0
  exact ⟨⟨_, rfl⟩, (HO.out.below (w' := W.drew) (Below.refl _ _).drew).setR (by rw [← H.out.nr]; exact hm) _, (HT.out.trans (Oth.of_below (b := W.drew) (Below.refl _ _).drew hBW)).set bR (Or.inr (Or.inl rfl)) _⟩

set_option maxHeartbeats 1600000 in
set_option maxRecDepth 100000 in
theorem pair8 (B F : Nat) (f : Fr) (r s : List Int) (w : World) (h : Ok w F f r s) (hB : B ≤ w.heap.size) (bF : B ≤ F) (bR : B ≤ f.gR) (bS : B ≤ f.gS) (hn : f.nr ≤ 1000) (p : Int) (m k j : Nat) (hm : m < f.nr) (hk : k < f.nr) (hj : j < f.nr) (A A' : Int) (hA : A = r.getD k 0) (hA' : A' = r.getD j 0) (g : Nat) (hg : w.cell? ⟨g, 0, none⟩ = some (.func (.func 147) #[] #[])) (a0 : -1000000000 ≤ A) (a1 : A ≤ 1000000000) (b0 : -1000000000 ≤ A') (b1 : A' ≤ 1000000000) :
    Calls Tryz.prog 176 #[.pointer (some ⟨F, 0, none⟩), .agg #[.int .i64 p, .int .i64 (m : Int), .int .i64 (k : Int), .int .i64 (j : Int)], .pointer (some ⟨g, 0, none⟩)] w fun e w' => (∃ v, e = .returned v) ∧ Ok w' F f (r.set m (bit (decide (A < A')))) s ∧ Oth B F f.gR f.gS w w' := by
  have H := Hid.mk h
  clear h
  have HA := Hid.mk hA
  have HA' := Hid.mk hA'
  clear hA hA'
  have m0 : (0 : Int) ≤ (m : Int) := by omega
  have m1 : (m : Int) < (f.nr : Int) := by omega
  have k0 : (0 : Int) ≤ (k : Int) := by omega
  have k1 : (k : Int) < (f.nr : Int) := by omega
  have j0 : (0 : Int) ≤ (j : Int) := by omega
  have j1 : (j : Int) < (f.nr : Int) := by omega
  go_enter Tryz.func176, Tryz.ntmps176
  go_wp2_with fail
  obtain ⟨W, hW⟩ : ∃ W, W = w.alloc (.cells #[.int .i64 p, .int .i64 (m : Int), .int .i64 (k : Int), .int .i64 (j : Int)] 133) := ⟨_, rfl⟩
  rw [← hW]
  have HO : Hid (Ok W F f r s) := by unfold Hid; rw [hW]; exact H.out.below (by go_grown)
  have HT : Hid (Oth B F f.gR f.gS w W) := by unfold Hid; rw [hW]; exact Oth.of_below (by go_grown) hB
  have KX : Hid (W.heap[w.heap.size]? = some (.cells #[.int .i64 p, .int .i64 (m : Int), .int .i64 (k : Int), .int .i64 (j : Int)] 133)) := by unfold Hid; rw [hW]; exact blk_new _ _
  have hBW : B ≤ W.heap.size := by rw [hW, World.size_alloc]; omega
  have g0 := cell_keep (show Below w.heap.size w W by rw [hW]; go_grown) hg
  clear hW hg
  have y7 := blk_cell HO.out.hF 7
  have x1 := blk_cell KX.out 1
  have x2 := blk_cell KX.out 2
  have x3 := blk_cell KX.out 3
  simp only [frC, List.getElem?_toArray, List.getElem?_cons_zero, List.getElem?_cons_succ] at y7 x1 x2 x3
  obtain ⟨d0, d1⟩ := HO.out.hr m (by rw [← H.out.nr]; exact hm)
  obtain ⟨e0, -⟩ := HO.out.hr k (by rw [← H.out.nr]; exact hk)
  obtain ⟨e1, -⟩ := HO.out.hr j (by rw [← H.out.nr]; exact hj)
  rw [← HA.out] at e0
  rw [← HA'.out] at e1
  go_still_tail 28, (by kernel_rfl)
  still_call (lessI A A' _ a0 a1 b0 b1)
  repeat still_step
  refine wpStill_nil ?_
  go_wp2
  go_end0
  exact ⟨⟨_, rfl⟩, (HO.out.below (w' := W.drew) (Below.refl _ _).drew).setR (by rw [← H.out.nr]; exact hm) _, (HT.out.trans (Oth.of_below (b := W.drew) (Below.refl _ _).drew hBW)).set bR (Or.inr (Or.inl rfl)) _⟩

set_option maxHeartbeats 1600000 in
set_option maxRecDepth 100000 in
theorem pair9 (B F : Nat) (f : Fr) (r s : List Int) (w : World) (h : Ok w F f r s) (hB : B ≤ w.heap.size) (bF : B ≤ F) (bR : B ≤ f.gR) (bS : B ≤ f.gS) (hn : f.nr ≤ 1000) (p : Int) (m k j : Nat) (hm : m < f.nr) (hk : k < f.nr) (hj : j < f.nr) (A A' : Int) (hA : A = r.getD k 0) (hA' : A' = r.getD j 0) (g : Nat) (hg : w.cell? ⟨g, 0, none⟩ = some (.func (.func 148) #[] #[])) (a0 : -1000000000 ≤ A) (a1 : A ≤ 1000000000) (b0 : -1000000000 ≤ A') (b1 : A' ≤ 1000000000) :
    Calls Tryz.prog 176 #[.pointer (some ⟨F, 0, none⟩), .agg #[.int .i64 p, .int .i64 (m : Int), .int .i64 (k : Int), .int .i64 (j : Int)], .pointer (some ⟨g, 0, none⟩)] w fun e w' => (∃ v, e = .returned v) ∧ Ok w' F f (r.set m (bit (decide (A ≤ A')))) s ∧ Oth B F f.gR f.gS w w' := by
  have H := Hid.mk h
  clear h
  have HA := Hid.mk hA
  have HA' := Hid.mk hA'
  clear hA hA'
  have m0 : (0 : Int) ≤ (m : Int) := by omega
  have m1 : (m : Int) < (f.nr : Int) := by omega
  have k0 : (0 : Int) ≤ (k : Int) := by omega
  have k1 : (k : Int) < (f.nr : Int) := by omega
  have j0 : (0 : Int) ≤ (j : Int) := by omega
  have j1 : (j : Int) < (f.nr : Int) := by omega
  go_enter Tryz.func176, Tryz.ntmps176
  go_wp2_with fail
  obtain ⟨W, hW⟩ : ∃ W, W = w.alloc (.cells #[.int .i64 p, .int .i64 (m : Int), .int .i64 (k : Int), .int .i64 (j : Int)] 133) := ⟨_, rfl⟩
  rw [← hW]
  have HO : Hid (Ok W F f r s) := by unfold Hid; rw [hW]; exact H.out.below (by go_grown)
  have HT : Hid (Oth B F f.gR f.gS w W) := by unfold Hid; rw [hW]; exact Oth.of_below (by go_grown) hB
  have KX : Hid (W.heap[w.heap.size]? = some (.cells #[.int .i64 p, .int .i64 (m : Int), .int .i64 (k : Int), .int .i64 (j : Int)] 133)) := by unfold Hid; rw [hW]; exact blk_new _ _
  have hBW : B ≤ W.heap.size := by rw [hW, World.size_alloc]; omega
  have g0 := cell_keep (show Below w.heap.size w W by rw [hW]; go_grown) hg
  clear hW hg
  have y7 := blk_cell HO.out.hF 7
  have x1 := blk_cell KX.out 1
  have x2 := blk_cell KX.out 2
  have x3 := blk_cell KX.out 3
  simp only [frC, List.getElem?_toArray, List.getElem?_cons_zero, List.getElem?_cons_succ] at y7 x1 x2 x3
  obtain ⟨d0, d1⟩ := HO.out.hr m (by rw [← H.out.nr]; exact hm)
  obtain ⟨e0, -⟩ := HO.out.hr k (by rw [← H.out.nr]; exact hk)
  obtain ⟨e1, -⟩ := HO.out.hr j (by rw [← H.out.nr]; exact hj)
  rw [← HA.out] at e0
  rw [← HA'.out] at e1
  go_still_tail 28, (by kernel_rfl)
  still_call (mostI A A' _ a0 a1 b0 b1)
  repeat still_step
  refine wpStill_nil ?_
  go_wp2
  go_end0
  exact ⟨⟨_, rfl⟩, (HO.out.below (w' := W.drew) (Below.refl _ _).drew).setR (by rw [← H.out.nr]; exact hm) _, (HT.out.trans (Oth.of_below (b := W.drew) (Below.refl _ _).drew hBW)).set bR (Or.inr (Or.inl rfl)) _⟩

set_option maxHeartbeats 1600000 in
set_option maxRecDepth 100000 in
theorem pair10 (B F : Nat) (f : Fr) (r s : List Int) (w : World) (h : Ok w F f r s) (hB : B ≤ w.heap.size) (bF : B ≤ F) (bR : B ≤ f.gR) (bS : B ≤ f.gS) (hn : f.nr ≤ 1000) (p : Int) (m k j : Nat) (hm : m < f.nr) (hk : k < f.nr) (hj : j < f.nr) (A A' : Int) (hA : A = r.getD k 0) (hA' : A' = r.getD j 0) (g : Nat) (hg : w.cell? ⟨g, 0, none⟩ = some (.func (.func 149) #[] #[])) (a0 : -1000000000 ≤ A) (a1 : A ≤ 1000000000) (b0 : -1000000000 ≤ A') (b1 : A' ≤ 1000000000) :
    Calls Tryz.prog 176 #[.pointer (some ⟨F, 0, none⟩), .agg #[.int .i64 p, .int .i64 (m : Int), .int .i64 (k : Int), .int .i64 (j : Int)], .pointer (some ⟨g, 0, none⟩)] w fun e w' => (∃ v, e = .returned v) ∧ Ok w' F f (r.set m (bit (A == A'))) s ∧ Oth B F f.gR f.gS w w' := by
  have H := Hid.mk h
  clear h
  have HA := Hid.mk hA
  have HA' := Hid.mk hA'
  clear hA hA'
  have m0 : (0 : Int) ≤ (m : Int) := by omega
  have m1 : (m : Int) < (f.nr : Int) := by omega
  have k0 : (0 : Int) ≤ (k : Int) := by omega
  have k1 : (k : Int) < (f.nr : Int) := by omega
  have j0 : (0 : Int) ≤ (j : Int) := by omega
  have j1 : (j : Int) < (f.nr : Int) := by omega
  go_enter Tryz.func176, Tryz.ntmps176
  go_wp2_with fail
  obtain ⟨W, hW⟩ : ∃ W, W = w.alloc (.cells #[.int .i64 p, .int .i64 (m : Int), .int .i64 (k : Int), .int .i64 (j : Int)] 133) := ⟨_, rfl⟩
  rw [← hW]
  have HO : Hid (Ok W F f r s) := by unfold Hid; rw [hW]; exact H.out.below (by go_grown)
  have HT : Hid (Oth B F f.gR f.gS w W) := by unfold Hid; rw [hW]; exact Oth.of_below (by go_grown) hB
  have KX : Hid (W.heap[w.heap.size]? = some (.cells #[.int .i64 p, .int .i64 (m : Int), .int .i64 (k : Int), .int .i64 (j : Int)] 133)) := by unfold Hid; rw [hW]; exact blk_new _ _
  have hBW : B ≤ W.heap.size := by rw [hW, World.size_alloc]; omega
  have g0 := cell_keep (show Below w.heap.size w W by rw [hW]; go_grown) hg
  clear hW hg
  have y7 := blk_cell HO.out.hF 7
  have x1 := blk_cell KX.out 1
  have x2 := blk_cell KX.out 2
  have x3 := blk_cell KX.out 3
  simp only [frC, List.getElem?_toArray, List.getElem?_cons_zero, List.getElem?_cons_succ] at y7 x1 x2 x3
  obtain ⟨d0, d1⟩ := HO.out.hr m (by rw [← H.out.nr]; exact hm)
  obtain ⟨e0, -⟩ := HO.out.hr k (by rw [← H.out.nr]; exact hk)
  obtain ⟨e1, -⟩ := HO.out.hr j (by rw [← H.out.nr]; exact hj)
  rw [← HA.out] at e0
  rw [← HA'.out] at e1
  go_still_tail 28, (by kernel_rfl)
  still_call (equalI A A' _ a0 a1 b0 b1)
  repeat still_step
  refine wpStill_nil ?_
  go_wp2
  go_end0
  exact ⟨⟨_, rfl⟩, (HO.out.below (w' := W.drew) (Below.refl _ _).drew).setR (by rw [← H.out.nr]; exact hm) _, (HT.out.trans (Oth.of_below (b := W.drew) (Below.refl _ _).drew hBW)).set bR (Or.inr (Or.inl rfl)) _⟩

set_option maxHeartbeats 1600000 in
set_option maxRecDepth 100000 in
theorem pair11 (B F : Nat) (f : Fr) (r s : List Int) (w : World) (h : Ok w F f r s) (hB : B ≤ w.heap.size) (bF : B ≤ F) (bR : B ≤ f.gR) (bS : B ≤ f.gS) (hn : f.nr ≤ 1000) (p : Int) (m k j : Nat) (hm : m < f.nr) (hk : k < f.nr) (hj : j < f.nr) (A A' : Int) (hA : A = r.getD k 0) (hA' : A' = r.getD j 0) (g : Nat) (hg : w.cell? ⟨g, 0, none⟩ = some (.func (.func 150) #[] #[])) (a0 : -1000000000 ≤ A) (a1 : A ≤ 1000000000) (b0 : -1000000000 ≤ A') (b1 : A' ≤ 1000000000) :
    Calls Tryz.prog 176 #[.pointer (some ⟨F, 0, none⟩), .agg #[.int .i64 p, .int .i64 (m : Int), .int .i64 (k : Int), .int .i64 (j : Int)], .pointer (some ⟨g, 0, none⟩)] w fun e w' => (∃ v, e = .returned v) ∧ Ok w' F f (r.set m (min A A')) s ∧ Oth B F f.gR f.gS w w' := by
  have H := Hid.mk h
  clear h
  have HA := Hid.mk hA
  have HA' := Hid.mk hA'
  clear hA hA'
  have m0 : (0 : Int) ≤ (m : Int) := by omega
  have m1 : (m : Int) < (f.nr : Int) := by omega
  have k0 : (0 : Int) ≤ (k : Int) := by omega
  have k1 : (k : Int) < (f.nr : Int) := by omega
  have j0 : (0 : Int) ≤ (j : Int) := by omega
  have j1 : (j : Int) < (f.nr : Int) := by omega
  go_enter Tryz.func176, Tryz.ntmps176
  go_wp2_with fail
  obtain ⟨W, hW⟩ : ∃ W, W = w.alloc (.cells #[.int .i64 p, .int .i64 (m : Int), .int .i64 (k : Int), .int .i64 (j : Int)] 133) := ⟨_, rfl⟩
  rw [← hW]
  have HO : Hid (Ok W F f r s) := by unfold Hid; rw [hW]; exact H.out.below (by go_grown)
  have HT : Hid (Oth B F f.gR f.gS w W) := by unfold Hid; rw [hW]; exact Oth.of_below (by go_grown) hB
  have KX : Hid (W.heap[w.heap.size]? = some (.cells #[.int .i64 p, .int .i64 (m : Int), .int .i64 (k : Int), .int .i64 (j : Int)] 133)) := by unfold Hid; rw [hW]; exact blk_new _ _
  have hBW : B ≤ W.heap.size := by rw [hW, World.size_alloc]; omega
  have g0 := cell_keep (show Below w.heap.size w W by rw [hW]; go_grown) hg
  clear hW hg
  have y7 := blk_cell HO.out.hF 7
  have x1 := blk_cell KX.out 1
  have x2 := blk_cell KX.out 2
  have x3 := blk_cell KX.out 3
  simp only [frC, List.getElem?_toArray, List.getElem?_cons_zero, List.getElem?_cons_succ] at y7 x1 x2 x3
  obtain ⟨d0, d1⟩ := HO.out.hr m (by rw [← H.out.nr]; exact hm)
  obtain ⟨e0, -⟩ := HO.out.hr k (by rw [← H.out.nr]; exact hk)
  obtain ⟨e1, -⟩ := HO.out.hr j (by rw [← H.out.nr]; exact hj)
  rw [← HA.out] at e0
  rw [← HA'.out] at e1
  go_still_tail 28, (by kernel_rfl)
  still_call (minI A A' _ a0 a1 b0 b1)
  repeat still_step
  refine wpStill_nil ?_
  go_wp2
  go_end0
  exact ⟨⟨_, rfl⟩, (HO.out.below (w' := W.drew) (Below.refl _ _).drew).setR (by rw [← H.out.nr]; exact hm) _, (HT.out.trans (Oth.of_below (b := W.drew) (Below.refl _ _).drew hBW)).set bR (Or.inr (Or.inl rfl)) _⟩

set_option maxHeartbeats 1600000 in
set_option maxRecDepth 100000 in
theorem pair12 (B F : Nat) (f : Fr) (r s : List Int) (w : World) (h : Ok w F f r s) (hB : B ≤ w.heap.size) (bF : B ≤ F) (bR : B ≤ f.gR) (bS : B ≤ f.gS) (hn : f.nr ≤ 1000) (p : Int) (m k j : Nat) (hm : m < f.nr) (hk : k < f.nr) (hj : j < f.nr) (A A' : Int) (hA : A = r.getD k 0) (hA' : A' = r.getD j 0) (g : Nat) (hg : w.cell? ⟨g, 0, none⟩ = some (.func (.func 151) #[] #[])) (a0 : -1000000000 ≤ A) (a1 : A ≤ 1000000000) (b0 : -1000000000 ≤ A') (b1 : A' ≤ 1000000000) :
    Calls Tryz.prog 176 #[.pointer (some ⟨F, 0, none⟩), .agg #[.int .i64 p, .int .i64 (m : Int), .int .i64 (k : Int), .int .i64 (j : Int)], .pointer (some ⟨g, 0, none⟩)] w fun e w' => (∃ v, e = .returned v) ∧ Ok w' F f (r.set m (max A A')) s ∧ Oth B F f.gR f.gS w w' := by
  have H := Hid.mk h
  clear h
  have HA := Hid.mk hA
  have HA' := Hid.mk hA'
  clear hA hA'
  have m0 : (0 : Int) ≤ (m : Int) := by omega
  have m1 : (m : Int) < (f.nr : Int) := by omega
  have k0 : (0 : Int) ≤ (k : Int) := by omega
  have k1 : (k : Int) < (f.nr : Int) := by omega
  have j0 : (0 : Int) ≤ (j : Int) := by omega
  have j1 : (j : Int) < (f.nr : Int) := by omega
  go_enter Tryz.func176, Tryz.ntmps176
  go_wp2_with fail
  obtain ⟨W, hW⟩ : ∃ W, W = w.alloc (.cells #[.int .i64 p, .int .i64 (m : Int), .int .i64 (k : Int), .int .i64 (j : Int)] 133) := ⟨_, rfl⟩
  rw [← hW]
  have HO : Hid (Ok W F f r s) := by unfold Hid; rw [hW]; exact H.out.below (by go_grown)
  have HT : Hid (Oth B F f.gR f.gS w W) := by unfold Hid; rw [hW]; exact Oth.of_below (by go_grown) hB
  have KX : Hid (W.heap[w.heap.size]? = some (.cells #[.int .i64 p, .int .i64 (m : Int), .int .i64 (k : Int), .int .i64 (j : Int)] 133)) := by unfold Hid; rw [hW]; exact blk_new _ _
  have hBW : B ≤ W.heap.size := by rw [hW, World.size_alloc]; omega
  have g0 := cell_keep (show Below w.heap.size w W by rw [hW]; go_grown) hg
  clear hW hg
  have y7 := blk_cell HO.out.hF 7
  have x1 := blk_cell KX.out 1
  have x2 := blk_cell KX.out 2
  have x3 := blk_cell KX.out 3
  simp only [frC, List.getElem?_toArray, List.getElem?_cons_zero, List.getElem?_cons_succ] at y7 x1 x2 x3
  obtain ⟨d0, d1⟩ := HO.out.hr m (by rw [← H.out.nr]; exact hm)
  obtain ⟨e0, -⟩ := HO.out.hr k (by rw [← H.out.nr]; exact hk)
  obtain ⟨e1, -⟩ := HO.out.hr j (by rw [← H.out.nr]; exact hj)
  rw [← HA.out] at e0
  rw [← HA'.out] at e1
  go_still_tail 28, (by kernel_rfl)
  still_call (maxI A A' _ a0 a1 b0 b1)
  repeat still_step
  refine wpStill_nil ?_
  go_wp2
  go_end0
  exact ⟨⟨_, rfl⟩, (HO.out.below (w' := W.drew) (Below.refl _ _).drew).setR (by rw [← H.out.nr]; exact hm) _, (HT.out.trans (Oth.of_below (b := W.drew) (Below.refl _ _).drew hBW)).set bR (Or.inr (Or.inl rfl)) _⟩

end Go.Proofs.YtgooegcmgejfpaaGreatDoor.Mac
