import Derived.Test.YtgooegcmgejfpaaGreatDoorGr12
import Derived.Deep.DeepCutAuto
import Derived.Test.YtgooegcmgejfpaaGreatDoorGr11
import Derived.BigQuiet
import Derived.Deep.RegionHeld3
import Derived.Deep.DrawnRows
import Derived.StillTailTactics
import Derived.Test.YtgooegcmgejfpaaGreatDoorGr02
import Derived.Test.YtgooegcmgejfpaaGreatDoorGr01
namespace Go.Proofs.YtgooegcmgejfpaaGreatDoor.Mac
open Go Go.RowKit Go.Proofs.YtgooegcmgejfpaaGreatDoor.Mem
open Go.Proofs.YtgooegcmgejfpaaGreatDoor.Arith (cl cl_bd sadd smul addS mulS addI mulI ret_int)
set_option linter.unusedVariables false
set_option linter.unusedSimpArgs false
attribute [local go_sem ↓] Go.wp_at_zero Go.wp_at_succ

set_option maxHeartbeats 1600000 in
set_option maxRecDepth 100000 in
theorem saveNo (B F : Nat) (f : Fr) (r s : List Int) (w : World) (h : Ok w F f r s) (hB : B ≤ w.heap.size) (bF : B ≤ F) (bR : B ≤ f.gR) (bS : B ≤ f.gS) (hn : f.nr ≤ 1000) (p a b c : Int) (hq : f.q = -1) :
    Calls Tryz.prog 161 #[.pointer (some ⟨F, 0, none⟩), .agg #[.int .i64 p, .int .i64 a, .int .i64 b, .int .i64 c]] w fun e w' => (∃ v, e = .returned v) ∧ Ok w' F f r s ∧ Oth B F f.gR f.gS w w' := by
  have H := Hid.mk h
  clear h
  go_enter Tryz.func161, Tryz.ntmps161
  have HQ := Hid.mk hq
  go_upto_region 1 with fail
  obtain ⟨W, hW⟩ : ∃ W, W = w.alloc (.cells #[.int .i64 p, .int .i64 a, .int .i64 b, .int .i64 c] 133) := ⟨_, rfl⟩
  rw [← hW]
  have HO : Hid (Ok W F f r s) := by unfold Hid; rw [hW]; exact H.out.below (by go_grown)
  have HT : Hid (Oth B F f.gR f.gS w W) := by unfold Hid; rw [hW]; exact Oth.of_below (by go_grown) hB
  have KX : Hid (W.heap[w.heap.size]? = some (.cells #[.int .i64 p, .int .i64 a, .int .i64 b, .int .i64 c] 133)) := by unfold Hid; rw [hW]; exact blk_new _ _
  have hBW : B ≤ W.heap.size := by rw [hW, World.size_alloc]; omega
  clear hW
  have y10 := blk_cell HO.out.hF 10
  simp only [frC, List.getElem?_toArray, List.getElem?_cons_zero, List.getElem?_cons_succ] at y10
  rw [HQ.out] at y10
  clear hq
  go_wp2
  go_end0
  exact ⟨⟨_, rfl⟩, HO.out, HT.out⟩

set_option maxHeartbeats 3200000 in
set_option maxRecDepth 100000 in
theorem saveAt (B F : Nat) (f : Fr) (r s : List Int) (w : World) (h : Ok w F f r s) (hB : B ≤ w.heap.size) (bF : B ≤ F) (bR : B ≤ f.gR) (bS : B ≤ f.gS) (hn : f.nr ≤ 1000) (mp : Mp) (hM : w.heap[f.M]? = some (.cells (mcC mp) 153)) (mR : f.M ≠ f.gR) (mS : f.M ≠ f.gS) (p a c : Int) (k : Nat) (hk : k < f.nr) (q : Nat) (hq : f.q = (q : Int)) (j : Nat) (hj : j < f.ns) (z1 : IntKind.i64.wrap (a * (mp.I.nQ : Int)) = a * (mp.I.nQ : Int)) (z2 : IntKind.i64.wrap (a * (mp.I.nQ : Int) + q) = (j : Int)) :
    Calls Tryz.prog 161 #[.pointer (some ⟨F, 0, none⟩), .agg #[.int .i64 p, .int .i64 a, .int .i64 (k : Int), .int .i64 c]] w fun e w' => (∃ v, e = .returned v) ∧ Ok w' F f r (s.set j (r.getD k 0)) ∧ Oth B F f.gR f.gS w w' := by
  have H := Hid.mk h
  clear h
  obtain ⟨A, hA⟩ : ∃ A, A = r.getD k 0 := ⟨_, rfl⟩
  have HA := Hid.mk hA
  rw [← hA]
  clear hA
  have q2 : ((q : Int) == -1) = false := by first | (simp; done) | (simp; omega)
  have q3 : ((q : Int) != -1) = true := by first | (simp; done) | (simp; omega)
  have j0 : (0 : Int) ≤ (j : Int) := by omega
  have j1 : (j : Int) < (f.ns : Int) := by omega
  have k0 : (0 : Int) ≤ (k : Int) := by omega
  have k1 : (k : Int) < (f.nr : Int) := by omega
  go_enter Tryz.func161, Tryz.ntmps161
  go_upto_region 1 with fail
  obtain ⟨W, hW⟩ : ∃ W, W = w.alloc (.cells #[.int .i64 p, .int .i64 a, .int .i64 (k : Int), .int .i64 c] 133) := ⟨_, rfl⟩
  rw [← hW]
  have HO : Hid (Ok W F f r s) := by unfold Hid; rw [hW]; exact H.out.below (by go_grown)
  have HT : Hid (Oth B F f.gR f.gS w W) := by unfold Hid; rw [hW]; exact Oth.of_below (by go_grown) hB
  have KX : Hid (W.heap[w.heap.size]? = some (.cells #[.int .i64 p, .int .i64 a, .int .i64 (k : Int), .int .i64 c] 133)) := by unfold Hid; rw [hW]; exact blk_new _ _
  have hBW : B ≤ W.heap.size := by rw [hW, World.size_alloc]; omega
  have HM : Hid (W.heap[f.M]? = some (.cells (mcC mp) 153)) := by unfold Hid; rw [hW]; exact blk_alloc hM _
  have wR : w.heap.size ≠ f.gR := by have := lt_of_cell (H.out.hr 0 (by rw [← H.out.nr]; omega)).1; omega
  have wS : w.heap.size ≠ f.gS := by have := lt_of_cell (H.out.hs j (by rw [← H.out.ns]; exact hj)).1; omega
  have haS : f.aS = some ⟨f.gS, 0, none⟩ := H.out.aS.elim (fun h0 => by omega) id
  clear hW hM
  have y7 := blk_cell HO.out.hF 7
  have y8 := blk_cell HO.out.hF 8
  have y9 := blk_cell HO.out.hF 9
  have y10 := blk_cell HO.out.hF 10
  have x1 := blk_cell KX.out 1
  have x2 := blk_cell KX.out 2
  have n1 := blk_cell HM.out 1
  simp only [frC, mcC, List.getElem?_toArray, List.getElem?_cons_zero, List.getElem?_cons_succ] at y7 y8 y9 y10 x1 x2 n1
  have fR := H.out.fr
  have fS := H.out.fs
  have rS := H.out.rs
  have sR := Ne.symm H.out.rs
  rw [hq] at y10
  rw [haS] at y8
  obtain ⟨e0, -⟩ := HO.out.hr k (by rw [← H.out.nr]; exact hk)
  rw [← HA.out] at e0
  have HQ := Hid.mk hq
  have HS8 := Hid.mk haS
  clear hq haS
  go_upto_region 2 with fail
  go_region_held3 (fun w' => w'.cell? ⟨F, 7, none⟩ = some (.slice (some ⟨f.gR, 0, none⟩) f.nr f.cR) ∧ w'.cell? ⟨F, 8, none⟩ = some (.slice (some ⟨f.gS, 0, none⟩) f.ns f.cS) ∧ w'.cell? ⟨w.heap.size, 1, none⟩ = some (.int .i64 a) ∧ w'.cell? ⟨w.heap.size, 2, none⟩ = some (.int .i64 (k : Int)) ∧ w'.cell? ⟨f.gR, k, none⟩ = some (.int .i64 A))
    (first | ((repeat' constructor) <;> first | exact cell_keep hb1 (by assumption) | exact (World.cell?_setCell_far _ _ _ _ (Ne.symm fR)).trans (by assumption) | exact (World.cell?_setCell_far _ _ _ _ (Ne.symm mR)).trans (by assumption) | exact (World.cell?_setCell_far _ _ _ _ (Ne.symm wR)).trans (by assumption) | exact (World.cell?_setCell_far _ _ _ _ (Ne.symm fS)).trans (by assumption) | exact (World.cell?_setCell_far _ _ _ _ (Ne.symm mS)).trans (by assumption) | exact (World.cell?_setCell_far _ _ _ _ (Ne.symm wS)).trans (by assumption) | exact (World.cell?_setCell_far _ _ _ _ (rS)).trans (by assumption) | exact (World.cell?_setCell_far _ _ _ _ (sR)).trans (by assumption)) | go_keep)
    ((go_at_call 179; refine (slotI F f.M a q mp.b2 mp.I.nQ mp.d2 j _ (by first | exact y9 | (simp; exact y9)) (by first | exact y10 | (simp; exact y10)) (by first | exact n1 | (simp; exact n1)) z1 z2).mono ?_; rintro e w1 ⟨rfl, hb1⟩; have y7' := cell_keep (W := W.drew) hb1 y7; have y8' := cell_keep (W := W.drew) hb1 y8; have x1' := cell_keep (W := W.drew) hb1 x1; have x2' := cell_keep (W := W.drew) hb1 x2; have e0' := cell_keep (W := W.drew) hb1 e0; have d0 := (((HO.out.below (w' := W.drew) (Below.refl _ _).drew).below hb1).hs j (by rw [← H.out.ns]; exact hj)).1; have d1 := (((HO.out.below (w' := W.drew) (Below.refl _ _).drew).below hb1).hs j (by rw [← H.out.ns]; exact hj)).2))
  have HO2 := Hid.mk ((HO.out.below (w' := W.drew) (Below.refl _ _).drew).below hb1)
  have HT2 := Hid.mk ((HT.out.trans (Oth.of_below (b := W.drew) (Below.refl _ _).drew hBW)).trans (Oth.of_below hb1 hBW))
  clear hb1
  all_goals go_wp2
  all_goals go_end0
  all_goals exact ⟨⟨_, rfl⟩, HO2.out.setS (by rw [← H.out.ns]; exact hj) _, HT2.out.set bS (Or.inr (Or.inr rfl)) _⟩

set_option maxHeartbeats 1600000 in
set_option maxRecDepth 100000 in
theorem loadNo (B F : Nat) (f : Fr) (r s : List Int) (w : World) (h : Ok w F f r s) (hB : B ≤ w.heap.size) (bF : B ≤ F) (bR : B ≤ f.gR) (bS : B ≤ f.gS) (hn : f.nr ≤ 1000) (p b c : Int) (m : Nat) (hm : m < f.nr) (hq : f.q = -1) :
    Calls Tryz.prog 162 #[.pointer (some ⟨F, 0, none⟩), .agg #[.int .i64 p, .int .i64 (m : Int), .int .i64 b, .int .i64 c]] w fun e w' => (∃ v, e = .returned v) ∧ Ok w' F f (r.set m 0) s ∧ Oth B F f.gR f.gS w w' := by
  have H := Hid.mk h
  clear h
  have m0 : (0 : Int) ≤ (m : Int) := by omega
  have m1 : (m : Int) < (f.nr : Int) := by omega
  go_enter Tryz.func162, Tryz.ntmps162
  have HQ := Hid.mk hq
  go_upto_region 1 with fail
  obtain ⟨W, hW⟩ : ∃ W, W = w.alloc (.cells #[.int .i64 p, .int .i64 (m : Int), .int .i64 b, .int .i64 c] 133) := ⟨_, rfl⟩
  rw [← hW]
  have HO : Hid (Ok W F f r s) := by unfold Hid; rw [hW]; exact H.out.below (by go_grown)
  have HT : Hid (Oth B F f.gR f.gS w W) := by unfold Hid; rw [hW]; exact Oth.of_below (by go_grown) hB
  have KX : Hid (W.heap[w.heap.size]? = some (.cells #[.int .i64 p, .int .i64 (m : Int), .int .i64 b, .int .i64 c] 133)) := by unfold Hid; rw [hW]; exact blk_new _ _
  have hBW : B ≤ W.heap.size := by rw [hW, World.size_alloc]; omega
  clear hW
  have y7 := blk_cell HO.out.hF 7
  have y10 := blk_cell HO.out.hF 10
  have x1 := blk_cell KX.out 1
  simp only [frC, List.getElem?_toArray, List.getElem?_cons_zero, List.getElem?_cons_succ] at y7 y10 x1
  obtain ⟨d0, d1⟩ := HO.out.hr m (by rw [← H.out.nr]; exact hm)
  rw [HQ.out] at y10
  clear hq
  go_upto_region 2 with fail
  go_still_tail 8, (by kernel_rfl)
  go_wp2
  refine bodyPost_ret (results_none rfl _ _ _) rfl ?_
  exact ⟨⟨_, rfl⟩, (HO.out.below (w' := W.drew) (Below.refl _ _).drew).setR (by rw [← H.out.nr]; exact hm) 0, (HT.out.trans (Oth.of_below (b := W.drew) (Below.refl _ _).drew hBW)).set bR (Or.inr (Or.inl rfl)) _⟩

set_option maxHeartbeats 3200000 in
set_option maxRecDepth 100000 in
theorem loadAt (B F : Nat) (f : Fr) (r s : List Int) (w : World) (h : Ok w F f r s) (hB : B ≤ w.heap.size) (bF : B ≤ F) (bR : B ≤ f.gR) (bS : B ≤ f.gS) (hn : f.nr ≤ 1000) (mp : Mp) (hM : w.heap[f.M]? = some (.cells (mcC mp) 153)) (mR : f.M ≠ f.gR) (mS : f.M ≠ f.gS) (p b c : Int) (m : Nat) (hm : m < f.nr) (q : Nat) (hq : f.q = (q : Int)) (j : Nat) (hj : j < f.ns) (z1 : IntKind.i64.wrap (b * (mp.I.nQ : Int)) = b * (mp.I.nQ : Int)) (z2 : IntKind.i64.wrap (b * (mp.I.nQ : Int) + q) = (j : Int)) :
    Calls Tryz.prog 162 #[.pointer (some ⟨F, 0, none⟩), .agg #[.int .i64 p, .int .i64 (m : Int), .int .i64 b, .int .i64 c]] w fun e w' => (∃ v, e = .returned v) ∧ Ok w' F f (r.set m (s.getD j 0)) s ∧ Oth B F f.gR f.gS w w' := by
  have H := Hid.mk h
  clear h
  obtain ⟨A, hA⟩ : ∃ A, A = s.getD j 0 := ⟨_, rfl⟩
  have HA := Hid.mk hA
  rw [← hA]
  clear hA
  have q2 : ((q : Int) == -1) = false := by first | (simp; done) | (simp; omega)
  have q3 : ((q : Int) != -1) = true := by first | (simp; done) | (simp; omega)
  have j0 : (0 : Int) ≤ (j : Int) := by omega
  have j1 : (j : Int) < (f.ns : Int) := by omega
  have m0 : (0 : Int) ≤ (m : Int) := by omega
  have m1 : (m : Int) < (f.nr : Int) := by omega
  go_enter Tryz.func162, Tryz.ntmps162
  go_upto_region 1 with fail
  obtain ⟨W, hW⟩ : ∃ W, W = w.alloc (.cells #[.int .i64 p, .int .i64 (m : Int), .int .i64 b, .int .i64 c] 133) := ⟨_, rfl⟩
  rw [← hW]
  have HO : Hid (Ok W F f r s) := by unfold Hid; rw [hW]; exact H.out.below (by go_grown)
  have HT : Hid (Oth B F f.gR f.gS w W) := by unfold Hid; rw [hW]; exact Oth.of_below (by go_grown) hB
  have KX : Hid (W.heap[w.heap.size]? = some (.cells #[.int .i64 p, .int .i64 (m : Int), .int .i64 b, .int .i64 c] 133)) := by unfold Hid; rw [hW]; exact blk_new _ _
  have hBW : B ≤ W.heap.size := by rw [hW, World.size_alloc]; omega
  have HM : Hid (W.heap[f.M]? = some (.cells (mcC mp) 153)) := by unfold Hid; rw [hW]; exact blk_alloc hM _
  have wR : w.heap.size ≠ f.gR := by have := lt_of_cell (H.out.hr 0 (by rw [← H.out.nr]; omega)).1; omega
  have wS : w.heap.size ≠ f.gS := by have := lt_of_cell (H.out.hs j (by rw [← H.out.ns]; exact hj)).1; omega
  have haS : f.aS = some ⟨f.gS, 0, none⟩ := H.out.aS.elim (fun h0 => by omega) id
  clear hW hM
  have y7 := blk_cell HO.out.hF 7
  have y8 := blk_cell HO.out.hF 8
  have y9 := blk_cell HO.out.hF 9
  have y10 := blk_cell HO.out.hF 10
  have x1 := blk_cell KX.out 1
  have x2 := blk_cell KX.out 2
  have n1 := blk_cell HM.out 1
  simp only [frC, mcC, List.getElem?_toArray, List.getElem?_cons_zero, List.getElem?_cons_succ] at y7 y8 y9 y10 x1 x2 n1
  have fR := H.out.fr
  have fS := H.out.fs
  have rS := H.out.rs
  have sR := Ne.symm H.out.rs
  rw [hq] at y10
  rw [haS] at y8
  obtain ⟨e0, -⟩ := HO.out.hs j (by rw [← H.out.ns]; exact hj)
  rw [← HA.out] at e0
  have HQ := Hid.mk hq
  have HS8 := Hid.mk haS
  clear hq haS
  go_upto_region 3 with fail
  go_region_held3 (fun w' => w'.cell? ⟨F, 7, none⟩ = some (.slice (some ⟨f.gR, 0, none⟩) f.nr f.cR) ∧ w'.cell? ⟨F, 8, none⟩ = some (.slice (some ⟨f.gS, 0, none⟩) f.ns f.cS) ∧ w'.cell? ⟨w.heap.size, 1, none⟩ = some (.int .i64 (m : Int)) ∧ w'.cell? ⟨w.heap.size, 2, none⟩ = some (.int .i64 b) ∧ w'.cell? ⟨f.gS, j, none⟩ = some (.int .i64 A))
    (first | ((repeat' constructor) <;> first | exact cell_keep hb1 (by assumption) | exact (World.cell?_setCell_far _ _ _ _ (Ne.symm fR)).trans (by assumption) | exact (World.cell?_setCell_far _ _ _ _ (Ne.symm mR)).trans (by assumption) | exact (World.cell?_setCell_far _ _ _ _ (Ne.symm wR)).trans (by assumption) | exact (World.cell?_setCell_far _ _ _ _ (Ne.symm fS)).trans (by assumption) | exact (World.cell?_setCell_far _ _ _ _ (Ne.symm mS)).trans (by assumption) | exact (World.cell?_setCell_far _ _ _ _ (Ne.symm wS)).trans (by assumption) | exact (World.cell?_setCell_far _ _ _ _ (rS)).trans (by assumption) | exact (World.cell?_setCell_far _ _ _ _ (sR)).trans (by assumption)) | go_keep)
    ((go_at_call 179; refine (slotI F f.M b q mp.b2 mp.I.nQ mp.d2 j _ (by first | exact y9 | (simp; exact y9)) (by first | exact y10 | (simp; exact y10)) (by first | exact n1 | (simp; exact n1)) z1 z2).mono ?_; rintro e w1 ⟨rfl, hb1⟩; have y7' := cell_keep (W := W.drew) hb1 y7; have y8' := cell_keep (W := W.drew) hb1 y8; have x1' := cell_keep (W := W.drew) hb1 x1; have x2' := cell_keep (W := W.drew) hb1 x2; have e0' := cell_keep (W := W.drew) hb1 e0; have d0 := (((HO.out.below (w' := W.drew) (Below.refl _ _).drew).below hb1).hr m (by rw [← H.out.nr]; exact hm)).1; have d1 := (((HO.out.below (w' := W.drew) (Below.refl _ _).drew).below hb1).hr m (by rw [← H.out.nr]; exact hm)).2))
  have HO2 := Hid.mk ((HO.out.below (w' := W.drew) (Below.refl _ _).drew).below hb1)
  have HT2 := Hid.mk ((HT.out.trans (Oth.of_below (b := W.drew) (Below.refl _ _).drew hBW)).trans (Oth.of_below hb1 hBW))
  clear hb1
  all_goals go_wp2
  all_goals go_end0
  all_goals exact ⟨⟨_, rfl⟩, HO2.out.setR (by rw [← H.out.nr]; exact hm) _, HT2.out.set bR (Or.inr (Or.inl rfl)) _⟩

end Go.Proofs.YtgooegcmgejfpaaGreatDoor.Mac
namespace Go.Proofs.YtgooegcmgejfpaaGreatDoor.Valid
open Go Go.RowKit Go.Proofs.YtgooegcmgejfpaaGreatDoor.Leaf
set_option linter.unusedVariables false

def inB (x lo hi : Int) : Bool := decide (lo ≤ x) && decide (x ≤ hi)
def gPlace (x y o c h : Int) : Bool := inB x (-10000) 10000 && inB y (-10000) 10000 && inB o 0 c && decide (c ≤ 1000000) && inB h 0 1000000
def gVeh (a b x y o c h : Int) : Bool := inB a 0 1000000 && inB b 0 65535 && gPlace x y o c h
def gReq (a b x y o c h x' y' o' c' h' : Int) : Bool := inB a 0 10000 && inB b 0 65535 && gPlace x y o c h && gPlace x' y' o' c' h'
def gRoad (a b t n : Int) : Bool := inB a 0 (n - 1) && inB b 0 (n - 1) && (a != b) && inB t 0 100000
theorem ret_bool {a b : Bool} (h : a = b) : Ending.returned (.bool a) = .returned (.bool b) := by rw [h]

theorem inS (x lo hi : Int) (w : World) : Calls Tryz.prog 37 #[.int .i64 x, .int .i64 lo, .int .i64 hi] w fun e w' => e = .returned (.bool (inB x lo hi)) ∧ w' = w := by
  by_cases h1 : lo ≤ x
  · go_enter Tryz.func37, Tryz.ntmps37
    go_wp2
    go_ret
    exact ⟨ret_bool (by simp [inB, h1]), rfl⟩
  · have hd : decide (lo ≤ x) = false := by simpa using h1
    go_enter Tryz.func37, Tryz.ntmps37
    go_wp2
    go_ret
    exact ⟨ret_bool (by simp [inB]; omega), rfl⟩

theorem inI (x lo hi : Int) (w : World) : Calls Tryz.prog 102 #[.int .i64 x, .int .i64 lo, .int .i64 hi] w fun e w' => e = .returned (.bool (inB x lo hi)) ∧ w' = w := by
  by_cases h1 : lo ≤ x
  · go_enter Tryz.func102, Tryz.ntmps102
    go_wp2
    go_ret
    exact ⟨ret_bool (by simp [inB, h1]), rfl⟩
  · have hd : decide (lo ≤ x) = false := by simpa using h1
    go_enter Tryz.func102, Tryz.ntmps102
    go_wp2
    go_ret
    exact ⟨ret_bool (by simp [inB]; omega), rfl⟩

set_option maxHeartbeats 800000 in
theorem placeS (x y o c h : Int) (w : World) : Calls Tryz.prog 129 #[.agg #[.int .i64 x, .int .i64 y, .int .i64 o, .int .i64 c, .int .i64 h]] w fun e w' => e = .returned (.bool (gPlace x y o c h)) ∧ Below w.heap.size w w' := by
  go_enter Tryz.func129, Tryz.ntmps129
  go_wp2_with (go_at_call 37; refine (inS _ _ _ _).mono ?_; rintro e w' ⟨rfl, rfl⟩)
  all_goals (go_ret; refine ⟨ret_bool ?_, ?_⟩)
  all_goals first | (go_grown; done) | (simp [gPlace, *]; done) | (simp [gPlace, *]; omega)

set_option maxHeartbeats 800000 in
theorem placeI (x y o c h : Int) (w : World) : Calls Tryz.prog 173 #[.agg #[.int .i64 x, .int .i64 y, .int .i64 o, .int .i64 c, .int .i64 h]] w fun e w' => e = .returned (.bool (gPlace x y o c h)) ∧ Below w.heap.size w w' := by
  go_enter Tryz.func173, Tryz.ntmps173
  go_wp2_with (go_at_call 102; refine (inI _ _ _ _).mono ?_; rintro e w' ⟨rfl, rfl⟩)
  all_goals (go_ret; refine ⟨ret_bool ?_, ?_⟩)
  all_goals first | (go_grown; done) | (simp [gPlace, *]; done) | (simp [gPlace, *]; omega)

set_option maxHeartbeats 800000 in
theorem vehS (a b x y o c h : Int) (w : World) : Calls Tryz.prog 82 #[.agg #[.int .i64 a, .int .i64 b, .int .i64 x, .int .i64 y, .int .i64 o, .int .i64 c, .int .i64 h]] w fun e w' => e = .returned (.bool (gVeh a b x y o c h)) ∧ Below w.heap.size w w' := by
  go_enter Tryz.func82, Tryz.ntmps82
  go_wp2_with (first | (go_at_call 37; refine (inS _ _ _ _).mono ?_; rintro e w' ⟨rfl, rfl⟩) | (go_at_call 129; refine (placeS _ _ _ _ _ _).mono ?_; rintro e w1 ⟨rfl, hb⟩))
  all_goals (go_ret; refine ⟨ret_bool ?_, ?_⟩)
  all_goals first | (go_grown; done) | (simp [gVeh, *]; done) | (exact ((Below.refl _ _).alloc (Nat.le_refl _) _).trans (hb.mono (by simp)))

set_option maxHeartbeats 800000 in
theorem vehI (a b x y o c h : Int) (w : World) : Calls Tryz.prog 135 #[.agg #[.int .i64 a, .int .i64 b, .int .i64 x, .int .i64 y, .int .i64 o, .int .i64 c, .int .i64 h]] w fun e w' => e = .returned (.bool (gVeh a b x y o c h)) ∧ Below w.heap.size w w' := by
  go_enter Tryz.func135, Tryz.ntmps135
  go_wp2_with (first | (go_at_call 102; refine (inI _ _ _ _).mono ?_; rintro e w' ⟨rfl, rfl⟩) | (go_at_call 173; refine (placeI _ _ _ _ _ _).mono ?_; rintro e w1 ⟨rfl, hb⟩))
  all_goals (go_ret; refine ⟨ret_bool ?_, ?_⟩)
  all_goals first | (go_grown; done) | (simp [gVeh, *]; done) | (exact ((Below.refl _ _).alloc (Nat.le_refl _) _).trans (hb.mono (by simp)))

set_option maxHeartbeats 1600000 in
theorem reqS (a b x y o c h x' y' o' c' h' : Int) (w : World) : Calls Tryz.prog 83 #[.agg #[.int .i64 a, .int .i64 b, .int .i64 x, .int .i64 y, .int .i64 o, .int .i64 c, .int .i64 h, .int .i64 x', .int .i64 y', .int .i64 o', .int .i64 c', .int .i64 h']] w fun e w' => e = .returned (.bool (gReq a b x y o c h x' y' o' c' h')) ∧ Below w.heap.size w w' := by
  go_enter Tryz.func83, Tryz.ntmps83
  go_wp2_with (first | (go_at_call 37; refine (inS _ _ _ _).mono ?_; rintro e w' ⟨rfl, rfl⟩) | (go_at_call 129; refine (placeS _ _ _ _ _ _).mono ?_; rintro e w1 ⟨rfl, hb⟩; have hk := below_then (w := w) (by first | assumption | (go_grown; done)) hb; have hq := bcell hb; obtain ⟨hc, hf⟩ := hq; clear hb; try simp only [World.size_alloc] at hc hf))
  all_goals (go_ret; refine ⟨ret_bool ?_, ?_⟩)
  all_goals first | assumption | (go_grown; done) | (simp [gReq, *]; done)

set_option maxHeartbeats 1600000 in
theorem reqI (a b x y o c h x' y' o' c' h' : Int) (w : World) : Calls Tryz.prog 136 #[.agg #[.int .i64 a, .int .i64 b, .int .i64 x, .int .i64 y, .int .i64 o, .int .i64 c, .int .i64 h, .int .i64 x', .int .i64 y', .int .i64 o', .int .i64 c', .int .i64 h']] w fun e w' => e = .returned (.bool (gReq a b x y o c h x' y' o' c' h')) ∧ Below w.heap.size w w' := by
  go_enter Tryz.func136, Tryz.ntmps136
  go_wp2_with (first | (go_at_call 102; refine (inI _ _ _ _).mono ?_; rintro e w' ⟨rfl, rfl⟩) | (go_at_call 173; refine (placeI _ _ _ _ _ _).mono ?_; rintro e w1 ⟨rfl, hb⟩; have hk := below_then (w := w) (by first | assumption | (go_grown; done)) hb; have hq := bcell hb; obtain ⟨hc, hf⟩ := hq; clear hb; try simp only [World.size_alloc] at hc hf))
  all_goals (go_ret; refine ⟨ret_bool ?_, ?_⟩)
  all_goals first | assumption | (go_grown; done) | (simp [gReq, *]; done)

set_option maxHeartbeats 1600000 in
theorem roadS (a b t n : Int) (w : World) (hn0 : 0 ≤ n) (hn1 : n ≤ 4000000000) : Calls Tryz.prog 84 #[.agg #[.int .i64 a, .int .i64 b, .int .i64 t], .int .i64 n] w fun e w' => e = .returned (.bool (gRoad a b t n)) ∧ Below w.heap.size w w' := by
  go_enter Tryz.func84, Tryz.ntmps84
  go_wp2_with (go_at_call 37; refine (inS _ _ _ _).mono ?_; rintro e w' ⟨rfl, rfl⟩)
  all_goals (go_ret; refine ⟨ret_bool ?_, ?_⟩)
  all_goals first | (go_grown; done) | (simp [gRoad, *]; done) | trace_state

set_option maxHeartbeats 1600000 in
theorem roadI (a b t n : Int) (w : World) (hn0 : 0 ≤ n) (hn1 : n ≤ 4000000000) : Calls Tryz.prog 174 #[.agg #[.int .i64 a, .int .i64 b, .int .i64 t], .int .i64 n] w fun e w' => e = .returned (.bool (gRoad a b t n)) ∧ Below w.heap.size w w' := by
  go_enter Tryz.func174, Tryz.ntmps174
  go_wp2_with (go_at_call 102; refine (inI _ _ _ _).mono ?_; rintro e w' ⟨rfl, rfl⟩)
  all_goals (go_ret; refine ⟨ret_bool ?_, ?_⟩)
  all_goals first | (go_grown; done) | (simp [gRoad, *]; done) | trace_state

end Go.Proofs.YtgooegcmgejfpaaGreatDoor.Valid
namespace Go.Proofs.YtgooegcmgejfpaaGreatDoor.Valid
open Go Go.RowKit Go.Proofs.YtgooegcmgejfpaaGreatDoor.Mem
set_option linter.unusedVariables false
attribute [local go_sem ↓] Go.wp_at_zero Go.wp_at_succ

def beforeB (x y : Rd) : Bool := decide (x.a < y.a) || ((x.a == y.a) && decide (x.b < y.b))
def cmp3 (x y : Int) : Int := if x < y then -1 else if y < x then 1 else 0
def or2 (x y : Int) : Int := if x != 0 then x else y
def cmpR (x y : Rd) : Int := or2 (cmp3 x.a y.a) (cmp3 x.b y.b)
theorem cmp3_bd (x y : Int) : -1 ≤ cmp3 x y ∧ cmp3 x y ≤ 1 := by unfold cmp3; split <;> (try split) <;> omega
theorem cmpR_before (x y : Rd) : decide (0 ≤ cmpR x y) = !beforeB x y := by
  unfold cmpR or2 cmp3 beforeB
  by_cases h1 : x.a < y.a
  · simp [h1]
  · by_cases h2 : y.a < x.a
    · have : ¬ x.a = y.a := by omega
      simp [h1, h2, this]
    · have : x.a = y.a := by omega
      by_cases h3 : x.b < y.b
      · simp [this, h3]
      · by_cases h4 : y.b < x.b
        · simp [this, h3, h4]
        · simp [this, h3, h4]

set_option maxHeartbeats 1600000 in
theorem beforeS (x y : Rd) (w : World) : Calls Tryz.prog 86 #[.agg #[.int .i64 x.a, .int .i64 x.b, .int .i64 x.t], .agg #[.int .i64 y.a, .int .i64 y.b, .int .i64 y.t]] w fun e w' => e = .returned (.bool (beforeB x y)) ∧ Below w.heap.size w w' := by
  by_cases h1 : x.a < y.a
  · go_enter Tryz.func86, Tryz.ntmps86
    go_wp2
    go_ret
    exact ⟨ret_bool (by simp [beforeB, h1]), by go_grown⟩
  · have hd : decide (x.a < y.a) = false := by simpa using h1
    by_cases h2 : x.a = y.a
    · have hd2 : (x.a == y.a) = true := by simpa using h2
      have H2 := Hid.mk h2
      clear h2
      go_enter Tryz.func86, Tryz.ntmps86
      go_wp2
      go_ret
      exact ⟨ret_bool (by simp [beforeB, H2.out]), by go_grown⟩
    · have hd2 : (x.a == y.a) = false := by simpa using h2
      go_enter Tryz.func86, Tryz.ntmps86
      go_wp2
      go_ret
      exact ⟨ret_bool (by simp [beforeB, h2]; omega), by go_grown⟩

theorem isNaN (x : Int) (w : World) : Calls Tryz.prog 187 #[.int .i64 x] w fun e w' => e = .returned (.bool false) ∧ w' = w := by
  go_enter Tryz.func187, Tryz.ntmps187
  go_wp2
  go_ret
  exact ⟨ret_bool (by simp), rfl⟩

theorem compare (x y : Int) (w : World) : Calls Tryz.prog 184 #[.int .i64 x, .int .i64 y] w fun e w' => e = .returned (.int .i64 (cmp3 x y)) ∧ w' = w := by
  unfold cmp3
  by_cases h1 : x < y
  · rw [if_pos h1]
    go_enter Tryz.func184, Tryz.ntmps184
    go_wp2_with (go_at_call 187; refine (isNaN _ _).mono ?_; rintro e w' ⟨rfl, rfl⟩)
    go_ret
    exact ⟨rfl, rfl⟩
  · by_cases h2 : y < x
    · rw [if_neg h1, if_pos h2]
      go_enter Tryz.func184, Tryz.ntmps184
      go_wp2_with (go_at_call 187; refine (isNaN _ _).mono ?_; rintro e w' ⟨rfl, rfl⟩)
      go_ret
      exact ⟨rfl, rfl⟩
    · rw [if_neg h1, if_neg h2]
      go_enter Tryz.func184, Tryz.ntmps184
      go_wp2_with (go_at_call 187; refine (isNaN _ _).mono ?_; rintro e w' ⟨rfl, rfl⟩)
      go_ret
      exact ⟨rfl, rfl⟩

/-- cmp.Or over two numbers in a block. -/
theorem orTwo (b : Nat) (x y : Int) (w : World) (h0 : w.cell? ⟨b, 0, none⟩ = some (.int .i64 x)) (h1 : w.cell? ⟨b, 1, none⟩ = some (.int .i64 y)) : Calls Tryz.prog 183 #[.slice (some ⟨b, 0, none⟩) 2 2] w fun e w' => e = .returned (.int .i64 (or2 x y)) ∧ w' = w := by
  unfold or2
  by_cases hx : x = 0
  · have hx' : (x != 0) = false := by simp [hx]
    have HX := Hid.mk hx
    clear hx
    by_cases hy : y = 0
    · have hy' : (y != 0) = false := by simp [hy]
      have HY := Hid.mk hy
      clear hy
      rw [if_neg (by simp [hx'])]
      go_enter Tryz.func183, Tryz.ntmps183
      go_wp2
      refine wp_loop_rounds 3 ?_
      rw [rounds_succ]
      go_wp2
      rw [rounds_succ]
      go_wp2
      rw [rounds_succ]
      go_wp2
      go_ret
      exact ⟨by rw [HY.out]; rfl, rfl⟩
    · have hy' : (y != 0) = true := by simp [hy]
      rw [if_neg (by simp [hx'])]
      go_enter Tryz.func183, Tryz.ntmps183
      go_wp2
      refine wp_loop_rounds 3 ?_
      rw [rounds_succ]
      go_wp2
      rw [rounds_succ]
      go_wp2
      go_ret
      exact ⟨rfl, rfl⟩
  · have hx' : (x != 0) = true := by simp [hx]
    rw [if_pos hx']
    go_enter Tryz.func183, Tryz.ntmps183
    go_wp2
    refine wp_loop_rounds 3 ?_
    rw [rounds_succ]
    go_wp2
    go_ret
    exact ⟨rfl, rfl⟩

set_option maxHeartbeats 1600000 in
theorem compareRoads (x y : Rd) (w : World) : Calls Tryz.prog 175 #[.agg #[.int .i64 x.a, .int .i64 x.b, .int .i64 x.t], .agg #[.int .i64 y.a, .int .i64 y.b, .int .i64 y.t]] w fun e w' => e = .returned (.int .i64 (cmpR x y)) ∧ Below w.heap.size w w' := by
  go_enter Tryz.func175, Tryz.ntmps175
  go_wp2_with fail
  go_region_held3 (fun w' => w'.cell? ⟨w.heap.size, 0, none⟩ = some (.int .i64 x.a) ∧ w'.cell? ⟨w.heap.size, 1, none⟩ = some (.int .i64 x.b) ∧ w'.cell? ⟨w.heap.size + 1, 0, none⟩ = some (.int .i64 y.a) ∧ w'.cell? ⟨w.heap.size + 1, 1, none⟩ = some (.int .i64 y.b)) (go_keep)
    ((first | (go_at_call 184; refine (compare _ _ _).mono ?_; rintro e w' ⟨rfl, rfl⟩) | (go_at_call 183; refine (orTwo _ (cmp3 x.a y.a) (cmp3 x.b y.b) _ ?_ ?_).mono ?_; (go_simp); (go_simp); rintro e w' ⟨rfl, rfl⟩)))
  go_wp2
  go_ret
  exact ⟨rfl, by go_grown⟩
end Go.Proofs.YtgooegcmgejfpaaGreatDoor.Valid
namespace Go.Proofs.YtgooegcmgejfpaaGreatDoor.Valid
open Go Go.RowKit Go.Proofs.YtgooegcmgejfpaaGreatDoor.Mem
set_option linter.unusedVariables false
attribute [local go_sem ↓] Go.wp_at_zero Go.wp_at_succ

def nodes (I : In) : Int := (I.nV : Int) + 2 * (I.nQ : Int)
def gV (v : Veh) : Bool := gVeh v.a v.b v.x v.y v.o v.c v.h
def gQ (q : Req) : Bool := gReq q.a q.b q.x q.y q.o q.c q.h q.x' q.y' q.o' q.c' q.h'
def gR (r : Rd) (n : Int) : Bool := gRoad r.a r.b r.t n
def rdOk (I : In) (i : Nat) : Bool := gR (I.R i) (nodes I) && (i == 0 || beforeB (I.R (i - 1)) (I.R i))
def lens (I : In) : Bool := !(decide (64 < I.nV) || decide (1000 < I.nQ) || decide (4000 < I.nR))
/-- The instance keeps every bound. -/
def validB (I : In) : Bool := lens I && allB I.nV (fun i => gV (I.V i)) && allB I.nQ (fun i => gQ (I.Q i)) && allB I.nR (rdOk I)

theorem valid_lens {I : In} (h : lens I = false) : validB I = false := by simp [validB, h]
theorem valid_V {I : In} {k : Nat} (hk : k < I.nV) (h : gV (I.V k) = false) : validB I = false := by
  simp [validB, allB_false (f := fun i => gV (I.V i)) hk h]
theorem valid_Q {I : In} {k : Nat} (hk : k < I.nQ) (h : gQ (I.Q k) = false) : validB I = false := by
  simp [validB, allB_false (f := fun i => gQ (I.Q i)) hk h]
theorem valid_R {I : In} {k : Nat} (hk : k < I.nR) (h : rdOk I k = false) : validB I = false := by
  simp [validB, allB_false (f := rdOk I) hk h]
theorem valid_true {I : In} (h0 : lens I = true) (h1 : allB I.nV (fun i => gV (I.V i)) = true) (h2 : allB I.nQ (fun i => gQ (I.Q i)) = true) (h3 : allB I.nR (rdOk I) = true) : validB I = true := by
  simp [validB, h0, h1, h2, h3]


theorem nodesS (a1 a2 a3 : Option Addr) (c1 c2 c3 : Nat) (I : In) (w : World) (h1 : I.nV ≤ 1048576) (h2 : I.nQ ≤ 1048576) :
    Calls Tryz.prog 85 #[.agg #[.slice a1 I.nV c1, .slice a2 I.nQ c2, .slice a3 I.nR c3]] w fun e w' => e = .returned (.int .i64 (nodes I)) ∧ Below w.heap.size w w' := by
  unfold nodes
  go_enter Tryz.func85, Tryz.ntmps85
  go_wp2
  go_ret
  exact ⟨rfl, by go_grown⟩

theorem nodesI (a1 a2 a3 : Option Addr) (c1 c2 c3 : Nat) (I : In) (w : World) (h1 : I.nV ≤ 1048576) (h2 : I.nQ ≤ 1048576) :
    Calls Tryz.prog 120 #[.agg #[.slice a1 I.nV c1, .slice a2 I.nQ c2, .slice a3 I.nR c3]] w fun e w' => e = .returned (.int .i64 (nodes I)) ∧ Below w.heap.size w w' := by
  unfold nodes
  go_enter Tryz.func120, Tryz.ntmps120
  go_wp2
  go_ret
  exact ⟨rfl, by go_grown⟩

theorem nodes_bd (I : In) (h1 : I.nV ≤ 1048576) (h2 : I.nQ ≤ 1048576) : 0 ≤ nodes I ∧ nodes I ≤ 4000000000 := by unfold nodes; omega
end Go.Proofs.YtgooegcmgejfpaaGreatDoor.Valid
