import Derived.Test.YtgooegcmgejfpaaGreatDoorGs19
import Derived.Deep.DeepCutAuto
import Derived.Test.YtgooegcmgejfpaaGreatDoorGs16
import Derived.BigQuiet
import Derived.Deep.RegionHeld3
import Derived.Deep.DrawnRows
import Derived.StillTailTactics
namespace Go.Proofs.YtgooegcmgejfpaaGreatDoor.Mac
open Go Go.RowKit Go.Proofs.YtgooegcmgejfpaaGreatDoor.Mem
open Go.Proofs.YtgooegcmgejfpaaGreatDoor.Arith (cl cl_bd sadd smul addS mulS addI mulI ret_int)
set_option linter.unusedVariables false
set_option linter.unusedSimpArgs false
attribute [local go_sem ↓] Go.wp_at_zero Go.wp_at_succ

set_option maxHeartbeats 1600000 in
set_option maxRecDepth 100000 in
theorem saveNo (B F : Nat) (f : Fr) (r s : List Int) (w : World) (h : Ok w F f r s) (hB : B ≤ w.heap.size) (bF : B ≤ F) (bR : B ≤ f.gR) (bS : B ≤ f.gS) (hn : f.nr ≤ 1000) (p a b c : Int) (hq : f.q = -1) :
    Calls Tryz.prog 161 #[.pointer (some ⟨F, 0, none⟩), .agg #[.int .i64 p, .int .i64 a, .int .i64 b, .int .i64 c]] w fun e w' => (∃ v, e = .returned v) ∧ Ok w' F f r s ∧ Oth B F f.gR f.gS w w' := by
  have H := Hid.mk h
  clear h
  go_enter Tryz.func161, Tryz.ntmps161
  have HQ := Hid.mk hq
  go_upto_region 1 with fail
  obtain ⟨W, hW⟩ : ∃ W, W = w.alloc (.cells #[.int .i64 p, .int .i64 a, .int .i64 b, .int .i64 c] 133) := ⟨_, rfl⟩
  rw [← hW]
  have HO : Hid (Ok W F f r s) := by unfold Hid; rw [hW]; exact H.out.below (by go_grown)
  have HT : Hid (Oth B F f.gR f.gS w W) := by unfold Hid; rw [hW]; exact Oth.of_below (by go_grown) hB
  have KX : Hid (W.heap[w.heap.size]? = some (.cells #[.int .i64 p, .int .i64 a, .int .i64 b, .int .i64 c] 133)) := by unfold Hid; rw [hW]; exact blk_new _ _
  have hBW : B ≤ W.heap.size := by rw [hW, World.size_alloc]; omega
  clear hW
  have y10 := blk_cell HO.out.hF 10
  simp only [frC, List.getElem?_toArray, List.getElem?_cons_zero, List.getElem?_cons_succ] at y10
  rw [HQ.out] at y10
  clear hq
  go_wp2
  go_end0
  exact ⟨⟨_, rfl⟩, HO.out, HT.out⟩

set_option maxHeartbeats 3200000 in
set_option maxRecDepth 100000 in
theorem saveAt (B F : Nat) (f : Fr) (r s : List Int) (w : World) (h : Ok w F f r s) (hB : B ≤ w.heap.size) (bF : B ≤ F) (bR : B ≤ f.gR) (bS : B ≤ f.gS) (hn : f.nr ≤ 1000) (mp : Mp) (hM : w.heap[f.M]? = some (.cells (mcC mp) 153)) (mR : f.M ≠ f.gR) (mS : f.M ≠ f.gS) (p a c : Int) (k : Nat) (hk : k < f.nr) (q : Nat) (hq : f.q = (q : Int)) (j : Nat) (hj : j < f.ns) (z1 : IntKind.i64.wrap (a * (mp.I.nQ : Int)) = a * (mp.I.nQ : Int)) (z2 : IntKind.i64.wrap (a * (mp.I.nQ : Int) + q) = (j : Int)) :
    Calls Tryz.prog 161 #[.pointer (some ⟨F, 0, none⟩), .agg #[.int .i64 p, .int .i64 a, .int .i64 (k : Int), .int .i64 c]] w fun e w' => (∃ v, e = .returned v) ∧ Ok w' F f r (s.set j (r.getD k 0)) ∧ Oth B F f.gR f.gS w w' := by
  have H := Hid.mk h
  clear h
  obtain ⟨A, hA⟩ : ∃ A, A = r.getD k 0 := ⟨_, rfl⟩
  have HA := Hid.mk hA
  rw [← hA]
  clear hA
  have q2 : ((q : Int) == -1) = false := by first | (simp; done) | (simp; omega)
  have q3 : ((q : Int) != -1) = true := by first | (simp; done) | (simp; omega)
  have j0 : (0 : Int) ≤ (j : Int) := by omega
  have j1 : (j : Int) < (f.ns : Int) := by omega
  have k0 : (0 : Int) ≤ (k : Int) := by omega
  have k1 : (k : Int) < (f.nr : Int) := by omega
  go_enter Tryz.func161, Tryz.ntmps161
  go_upto_region 1 with fail
  obtain ⟨W, hW⟩ : ∃ W, W = w.alloc (.cells #[.int .i64 p, .int .i64 a, .int .i64 (k : Int), .int .i64 c] 133) := ⟨_, rfl⟩
  rw [← hW]
  have HO : Hid (Ok W F f r s) := by unfold Hid; rw [hW]; exact H.out.below (by go_grown)
  have HT : Hid (Oth B F f.gR f.gS w W) := by unfold Hid; rw [hW]; exact Oth.of_below (by go_grown) hB
  have KX : Hid (W.heap[w.heap.size]? = some (.cells #[.int .i64 p, .int .i64 a, .int .i64 (k : Int), .int .i64 c] 133)) := by unfold Hid; rw [hW]; exact blk_new _ _
  have hBW : B ≤ W.heap.size := by rw [hW, World.size_alloc]; omega
  have HM : Hid (W.heap[f.M]? = some (.cells (mcC mp) 153)) := by unfold Hid; rw [hW]; exact blk_alloc hM _
  have wR : w.heap.size ≠ f.gR := by have := lt_of_cell (H.out.hr 0 (by rw [← H.out.nr]; omega)).1; omega
  have wS : w.heap.size ≠ f.gS := by have := lt_of_cell (H.out.hs j (by rw [← H.out.ns]; exact hj)).1; omega
  have haS : f.aS = some ⟨f.gS, 0, none⟩ := H.out.aS.elim (fun h0 => by omega) id
  clear hW hM
  have y7 := blk_cell HO.out.hF 7
  have y8 := blk_cell HO.out.hF 8
  have y9 := blk_cell HO.out.hF 9
  have y10 := blk_cell HO.out.hF 10
  have x1 := blk_cell KX.out 1
  have x2 := blk_cell KX.out 2
  have n1 := blk_cell HM.out 1
  simp only [frC, mcC, List.getElem?_toArray, List.getElem?_cons_zero, List.getElem?_cons_succ] at y7 y8 y9 y10 x1 x2 n1
  have fR := H.out.fr
  have fS := H.out.fs
  have rS := H.out.rs
  have sR := Ne.symm H.out.rs
  rw [hq] at y10
  rw [haS] at y8
  obtain ⟨e0, -⟩ := HO.out.hr k (by rw [← H.out.nr]; exact hk)
  rw [← HA.out] at e0
  have HQ := Hid.mk hq
  have HS8 := Hid.mk haS
  clear hq haS
  go_upto_region 2 with fail
  go_region_held3 (fun w' => w'.cell? ⟨F, 7, none⟩ = some (.slice (some ⟨f.gR, 0, none⟩) f.nr f.cR) ∧ w'.cell? ⟨F, 8, none⟩ = some (.slice (some ⟨f.gS, 0, none⟩) f.ns f.cS) ∧ w'.cell? ⟨w.heap.size, 1, none⟩ = some (.int .i64 a) ∧ w'.cell? ⟨w.heap.size, 2, none⟩ = some (.int .i64 (k : Int)) ∧ w'.cell? ⟨f.gR, k, none⟩ = some (.int .i64 A))
    (first | ((repeat' constructor) <;> first | exact cell_keep hb1 (by assumption) | exact (World.cell?_setCell_far _ _ _ _ (Ne.symm fR)).trans (by assumption) | exact (World.cell?_setCell_far _ _ _ _ (Ne.symm mR)).trans (by assumption) | exact (World.cell?_setCell_far _ _ _ _ (Ne.symm wR)).trans (by assumption) | exact (World.cell?_setCell_far _ _ _ _ (Ne.symm fS)).trans (by assumption) | exact (World.cell?_setCell_far _ _ _ _ (Ne.symm mS)).trans (by assumption) | exact (World.cell?_setCell_far _ _ _ _ (Ne.symm wS)).trans (by assumption) | exact (World.cell?_setCell_far _ _ _ _ (rS)).trans (by assumption) | exact (World.cell?_setCell_far _ _ _ _ (sR)).trans (by assumption)) | go_keep)
    ((go_at_call 179; refine (slotI F f.M a q mp.b2 mp.I.nQ mp.d2 j _ (by first | exact y9 | (simp; exact y9)) (by first | exact y10 | (simp; exact y10)) (by first | exact n1 | (simp; exact n1)) z1 z2).mono ?_; rintro e w1 ⟨rfl, hb1⟩; have y7' := cell_keep (W := W.drew) hb1 y7; have y8' := cell_keep (W := W.drew) hb1 y8; have x1' := cell_keep (W := W.drew) hb1 x1; have x2' := cell_keep (W := W.drew) hb1 x2; have e0' := cell_keep (W := W.drew) hb1 e0; have d0 := (((HO.out.below (w' := W.drew) (Below.refl _ _).drew).below hb1).hs j (by rw [← H.out.ns]; exact hj)).1; have d1 := (((HO.out.below (w' := W.drew) (Below.refl _ _).drew).below hb1).hs j (by rw [← H.out.ns]; exact hj)).2))
  have HO2 := Hid.mk ((HO.out.below (w' := W.drew) (Below.refl _ _).drew).below hb1)
  have HT2 := Hid.mk ((HT.out.trans (Oth.of_below (b := W.drew) (Below.refl _ _).drew hBW)).trans (Oth.of_below hb1 hBW))
  clear hb1
  all_goals go_wp2
  all_goals go_end0
  all_goals exact ⟨⟨_, rfl⟩, HO2.out.setS (by rw [← H.out.ns]; exact hj) _, HT2.out.set bS (Or.inr (Or.inr rfl)) _⟩

set_option maxHeartbeats 1600000 in
set_option maxRecDepth 100000 in
theorem loadNo (B F : Nat) (f : Fr) (r s : List Int) (w : World) (h : Ok w F f r s) (hB : B ≤ w.heap.size) (bF : B ≤ F) (bR : B ≤ f.gR) (bS : B ≤ f.gS) (hn : f.nr ≤ 1000) (p b c : Int) (m : Nat) (hm : m < f.nr) (hq : f.q = -1) :
    Calls Tryz.prog 162 #[.pointer (some ⟨F, 0, none⟩), .agg #[.int .i64 p, .int .i64 (m : Int), .int .i64 b, .int .i64 c]] w fun e w' => (∃ v, e = .returned v) ∧ Ok w' F f (r.set m 0) s ∧ Oth B F f.gR f.gS w w' := by
  have H := Hid.mk h
  clear h
  have m0 : (0 : Int) ≤ (m : Int) := by omega
  have m1 : (m : Int) < (f.nr : Int) := by omega
  go_enter Tryz.func162, Tryz.ntmps162
  have HQ := Hid.mk hq
  go_upto_region 1 with fail
  obtain ⟨W, hW⟩ : ∃ W, W = w.alloc (.cells #[.int .i64 p, .int .i64 (m : Int), .int .i64 b, .int .i64 c] 133) := ⟨_, rfl⟩
  rw [← hW]
  have HO : Hid (Ok W F f r s) := by unfold Hid; rw [hW]; exact H.out.below (by go_grown)
  have HT : Hid (Oth B F f.gR f.gS w W) := by unfold Hid; rw [hW]; exact Oth.of_below (by go_grown) hB
  have KX : Hid (W.heap[w.heap.size]? = some (.cells #[.int .i64 p, .int .i64 (m : Int), .int .i64 b, .int .i64 c] 133)) := by unfold Hid; rw [hW]; exact blk_new _ _
  have hBW : B ≤ W.heap.size := by rw [hW, World.size_alloc]; omega
  clear hW
  have y7 := blk_cell HO.out.hF 7
  have y10 := blk_cell HO.out.hF 10
  have x1 := blk_cell KX.out 1
  simp only [frC, List.getElem?_toArray, List.getElem?_cons_zero, List.getElem?_cons_succ] at y7 y10 x1
  obtain ⟨d0, d1⟩ := HO.out.hr m (by rw [← H.out.nr]; exact hm)
  rw [HQ.out] at y10
  clear hq
  go_upto_region 2 with fail
  go_still_tail 8, (by kernel_rfl)
  go_wp2
  refine bodyPost_ret (results_none rfl _ _ _) rfl ?_
  exact ⟨⟨_, rfl⟩, (HO.out.below (w' := W.drew) (Below.refl _ _).drew).setR (by rw [← H.out.nr]; exact hm) 0, (HT.out.trans (Oth.of_below (b := W.drew) (Below.refl _ _).drew hBW)).set bR (Or.inr (Or.inl rfl)) _⟩

set_option maxHeartbeats 3200000 in
set_option maxRecDepth 100000 in
theorem loadAt (B F : Nat) (f : Fr) (r s : List Int) (w : World) (h : Ok w F f r s) (hB : B ≤ w.heap.size) (bF : B ≤ F) (bR : B ≤ f.gR) (bS : B ≤ f.gS) (hn : f.nr ≤ 1000) (mp : Mp) (hM : w.heap[f.M]? = some (.cells (mcC mp) 153)) (mR : f.M ≠ f.gR) (mS : f.M ≠ f.gS) (p b c : Int) (m : Nat) (hm : m < f.nr) (q : Nat) (hq : f.q = (q : Int)) (j : Nat) (hj : j < f.ns) (z1 : IntKind.i64.wrap (b * (mp.I.nQ : Int)) = b * (mp.I.nQ : Int)) (z2 : IntKind.i64.wrap (b * (mp.I.nQ : Int) + q) = (j : Int)) :
    Calls Tryz.prog 162 #[.pointer (some ⟨F, 0, none⟩), .agg #[.int .i64 p, .int .i64 (m : Int), .int .i64 b, .int .i64 c]] w fun e w' => (∃ v, e = .returned v) ∧ Ok w' F f (r.set m (s.getD j 0)) s ∧ Oth B F f.gR f.gS w w' := by
  have H := Hid.mk h
  clear h
  obtain ⟨A, hA⟩ : ∃ A, A = s.getD j 0 := ⟨_, rfl⟩
  have HA := Hid.mk hA
  rw [← hA]
  clear hA
  have q2 : ((q : Int) == -1) = false := by first | (simp; done) | (simp; omega)
  have q3 : ((q : Int) != -1) = true := by first | (simp; done) | (simp; omega)
  have j0 : (0 : Int) ≤ (j : Int) := by omega
  have j1 : (j : Int) < (f.ns : Int) := by omega
  have m0 : (0 : Int) ≤ (m : Int) := by omega
  have m1 : (m : Int) < (f.nr : Int) := by omega
  go_enter Tryz.func162, Tryz.ntmps162
  go_upto_region 1 with fail
  obtain ⟨W, hW⟩ : ∃ W, W = w.alloc (.cells #[.int .i64 p, .int .i64 (m : Int), .int .i64 b, .int .i64 c] 133) := ⟨_, rfl⟩
  rw [← hW]
  have HO : Hid (Ok W F f r s) := by unfold Hid; rw [hW]; exact H.out.below (by go_grown)
  have HT : Hid (Oth B F f.gR f.gS w W) := by unfold Hid; rw [hW]; exact Oth.of_below (by go_grown) hB
  have KX : Hid (W.heap[w.heap.size]? = some (.cells #[.int .i64 p, .int .i64 (m : Int), .int .i64 b, .int .i64 c] 133)) := by unfold Hid; rw [hW]; exact blk_new _ _
  have hBW : B ≤ W.heap.size := by rw [hW, World.size_alloc]; omega
  have HM : Hid (W.heap[f.M]? = some (.cells (mcC mp) 153)) := by unfold Hid; rw [hW]; exact blk_alloc hM _
  have wR : w.heap.size ≠ f.gR := by have := lt_of_cell (H.out.hr 0 (by rw [← H.out.nr]; omega)).1; omega
  have wS : w.heap.size ≠ f.gS := by have := lt_of_cell (H.out.hs j (by rw [← H.out.ns]; exact hj)).1; omega
  have haS : f.aS = some ⟨f.gS, 0, none⟩ := H.out.aS.elim (fun h0 => by omega) id
  clear hW hM
  have y7 := blk_cell HO.out.hF 7
  have y8 := blk_cell HO.out.hF 8
  have y9 := blk_cell HO.out.hF 9
  have y10 := blk_cell HO.out.hF 10
  have x1 := blk_cell KX.out 1
  have x2 := blk_cell KX.out 2
  have n1 := blk_cell HM.out 1
  simp only [frC, mcC, List.getElem?_toArray, List.getElem?_cons_zero, List.getElem?_cons_succ] at y7 y8 y9 y10 x1 x2 n1
  have fR := H.out.fr
  have fS := H.out.fs
  have rS := H.out.rs
  have sR := Ne.symm H.out.rs
  rw [hq] at y10
  rw [haS] at y8
  obtain ⟨e0, -⟩ := HO.out.hs j (by rw [← H.out.ns]; exact hj)
  rw [← HA.out] at e0
  have HQ := Hid.mk hq
  have HS8 := Hid.mk haS
  clear hq haS
  go_upto_region 3 with fail
  go_region_held3 (fun w' => w'.cell? ⟨F, 7, none⟩ = some (.slice (some ⟨f.gR, 0, none⟩) f.nr f.cR) ∧ w'.cell? ⟨F, 8, none⟩ = some (.slice (some ⟨f.gS, 0, none⟩) f.ns f.cS) ∧ w'.cell? ⟨w.heap.size, 1, none⟩ = some (.int .i64 (m : Int)) ∧ w'.cell? ⟨w.heap.size, 2, none⟩ = some (.int .i64 b) ∧ w'.cell? ⟨f.gS, j, none⟩ = some (.int .i64 A))
    (first | ((repeat' constructor) <;> first | exact cell_keep hb1 (by assumption) | exact (World.cell?_setCell_far _ _ _ _ (Ne.symm fR)).trans (by assumption) | exact (World.cell?_setCell_far _ _ _ _ (Ne.symm mR)).trans (by assumption) | exact (World.cell?_setCell_far _ _ _ _ (Ne.symm wR)).trans (by assumption) | exact (World.cell?_setCell_far _ _ _ _ (Ne.symm fS)).trans (by assumption) | exact (World.cell?_setCell_far _ _ _ _ (Ne.symm mS)).trans (by assumption) | exact (World.cell?_setCell_far _ _ _ _ (Ne.symm wS)).trans (by assumption) | exact (World.cell?_setCell_far _ _ _ _ (rS)).trans (by assumption) | exact (World.cell?_setCell_far _ _ _ _ (sR)).trans (by assumption)) | go_keep)
    ((go_at_call 179; refine (slotI F f.M b q mp.b2 mp.I.nQ mp.d2 j _ (by first | exact y9 | (simp; exact y9)) (by first | exact y10 | (simp; exact y10)) (by first | exact n1 | (simp; exact n1)) z1 z2).mono ?_; rintro e w1 ⟨rfl, hb1⟩; have y7' := cell_keep (W := W.drew) hb1 y7; have y8' := cell_keep (W := W.drew) hb1 y8; have x1' := cell_keep (W := W.drew) hb1 x1; have x2' := cell_keep (W := W.drew) hb1 x2; have e0' := cell_keep (W := W.drew) hb1 e0; have d0 := (((HO.out.below (w' := W.drew) (Below.refl _ _).drew).below hb1).hr m (by rw [← H.out.nr]; exact hm)).1; have d1 := (((HO.out.below (w' := W.drew) (Below.refl _ _).drew).below hb1).hr m (by rw [← H.out.nr]; exact hm)).2))
  have HO2 := Hid.mk ((HO.out.below (w' := W.drew) (Below.refl _ _).drew).below hb1)
  have HT2 := Hid.mk ((HT.out.trans (Oth.of_below (b := W.drew) (Below.refl _ _).drew hBW)).trans (Oth.of_below hb1 hBW))
  clear hb1
  all_goals go_wp2
  all_goals go_end0
  all_goals exact ⟨⟨_, rfl⟩, HO2.out.setR (by rw [← H.out.nr]; exact hm) _, HT2.out.set bR (Or.inr (Or.inl rfl)) _⟩

end Go.Proofs.YtgooegcmgejfpaaGreatDoor.Mac
