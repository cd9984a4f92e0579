import Derived.Test.YtgooegcmgejfpaaGreatDoorGr10
import Derived.Test.YtgooegcmgejfpaaGreatDoorGr11
import Derived.BigQuiet
import Derived.Deep.RegionHeld3
import Derived.Deep.DrawnRows
import Derived.StillTailTactics
namespace Go.Proofs.YtgooegcmgejfpaaGreatDoor.Mac
open Go Go.RowKit Go.Proofs.YtgooegcmgejfpaaGreatDoor.Mem
open Go.Proofs.YtgooegcmgejfpaaGreatDoor.Arith (cl cl_bd sadd smul addS mulS addI mulI ret_int)
set_option linter.unusedVariables false
set_option linter.unusedSimpArgs false
attribute [local go_sem ↓] Go.wp_at_zero Go.wp_at_succ

set_option maxHeartbeats 1600000 in
theorem hasTagNo (b1 b2 b3 : Option Addr) (d1 d2 d3 : Nat) (I : In) (v : Int) (w : World) (hI : InAt w b1 b2 b3 I) (t : Int) :
    Calls Tryz.prog 153 #[.agg #[.slice b1 I.nV d1, .slice b2 I.nQ d2, .slice b3 I.nR d3, .int .i64 v], .int .i64 (-1), .int .i64 t] w fun e w' => e = .returned (.int .i64 0) ∧ Below w.heap.size w w' := by
  clear hI
  go_enter Tryz.func153, Tryz.ntmps153
  go_wp2
  go_ret
  exact ⟨rfl, by go_grown⟩
set_option maxHeartbeats 1600000 in
theorem hasTagAt (b1 b2 b3 : Option Addr) (d1 d2 d3 : Nat) (I : In) (v : Int) (w : World) (hI : InAt w b1 b2 b3 I) (q : Nat) (t : Int) (hq : q < I.nQ) (h0 : 0 ≤ (I.Q q).b) (h1 : (I.Q q).b ≤ 65535) (t0 : 0 ≤ t) (t1 : t ≤ 15) :
    Calls Tryz.prog 153 #[.agg #[.slice b1 I.nV d1, .slice b2 I.nQ d2, .slice b3 I.nR d3, .int .i64 v], .int .i64 (q : Int), .int .i64 t] w fun e w' => e = .returned (.int .i64 (bit (hasB (I.Q q).b t))) ∧ Below w.heap.size w w' := by
  rcases hI.q with h | ⟨g, o, rfl, h⟩
  · omega
  have hc : w.rangeAt g (o + q * 12) (I.Q q).cells := h q hq
  obtain ⟨-, e1, -⟩ := Req.at hc
  have ge := lt_of_cell e1
  have q0 : (0 : Int) ≤ (q : Int) := by omega
  have q1 : (q : Int) < (I.nQ : Int) := by omega
  have q2 : ((q : Int) == -1) = false := by first | (simp; done) | (simp; omega)
  clear hI h hc
  go_enter Tryz.func153, Tryz.ntmps153
  go_wp2_with (go_at_call 178; refine (hasI _ _ _ h0 h1 t0 t1).mono ?_; rintro e w' ⟨rfl, rfl⟩)
  go_ret
  exact ⟨rfl, by go_grown⟩
set_option maxHeartbeats 1600000 in
theorem hasSkillAt (b1 b2 b3 : Option Addr) (d1 d2 d3 : Nat) (I : In) (v : Nat) (w : World) (hI : InAt w b1 b2 b3 I) (t : Int) (hv : v < I.nV) (h0 : 0 ≤ (I.V v).b) (h1 : (I.V v).b ≤ 65535) (t0 : 0 ≤ t) (t1 : t ≤ 15) :
    Calls Tryz.prog 155 #[.agg #[.slice b1 I.nV d1, .slice b2 I.nQ d2, .slice b3 I.nR d3, .int .i64 (v : Int)], .int .i64 t] w fun e w' => e = .returned (.int .i64 (bit (hasB (I.V v).b t))) ∧ Below w.heap.size w w' := by
  rcases hI.v with h | ⟨g, o, rfl, h⟩
  · omega
  have hc : w.rangeAt g (o + v * 7) (I.V v).cells := h v hv
  obtain ⟨-, e1, -⟩ := Veh.at hc
  have ge := lt_of_cell e1
  have q0 : (0 : Int) ≤ (v : Int) := by omega
  have q1 : (v : Int) < (I.nV : Int) := by omega
  clear hI h hc
  go_enter Tryz.func155, Tryz.ntmps155
  go_wp2_with (go_at_call 178; refine (hasI _ _ _ h0 h1 t0 t1).mono ?_; rintro e w' ⟨rfl, rfl⟩)
  go_ret
  exact ⟨rfl, by go_grown⟩
set_option maxHeartbeats 1600000 in
theorem slotI (F M : Nat) (b q : Int) (b2 : Option Addr) (nQ d2 j : Nat) (w : World) (h9 : w.cell? ⟨F, 9, none⟩ = some (.pointer (some ⟨M, 0, none⟩))) (h10 : w.cell? ⟨F, 10, none⟩ = some (.int .i64 q)) (m1 : w.cell? ⟨M, 1, none⟩ = some (.slice b2 nQ d2)) (z1 : IntKind.i64.wrap (b * (nQ : Int)) = b * (nQ : Int)) (z2 : IntKind.i64.wrap (b * (nQ : Int) + q) = (j : Int)) :
    Calls Tryz.prog 179 #[.pointer (some ⟨F, 0, none⟩), .int .i64 b] w fun e w' => e = .returned (.int .i64 (j : Int)) ∧ Below w.heap.size w w' := by
  go_enter Tryz.func179, Tryz.ntmps179
  go_wp2_with fail
  go_quiet (fail)
  go_wp2
  go_ret
  exact ⟨rfl, below_drewN' (Below.refl _ _) _⟩
set_option maxHeartbeats 3200000 in
set_option maxRecDepth 100000 in
theorem tagNo (B F : Nat) (f : Fr) (r s : List Int) (w : World) (h : Ok w F f r s) (hB : B ≤ w.heap.size) (bF : B ≤ F) (bR : B ≤ f.gR) (bS : B ≤ f.gS) (hn : f.nr ≤ 1000) (mp : Mp) (M : Nat) (hM : w.heap[f.M]? = some (.cells (mcC mp) 153)) (mR : f.M ≠ f.gR) (mS : f.M ≠ f.gS) (hI : InAt w mp.b1 mp.b2 mp.b3 mp.I) (p t c : Int) (m : Nat) (hm : m < f.nr) (hq : f.q = -1) :
    Calls Tryz.prog 152 #[.pointer (some ⟨F, 0, none⟩), .agg #[.int .i64 p, .int .i64 (m : Int), .int .i64 t, .int .i64 c]] w fun e w' => (∃ v, e = .returned v) ∧ Ok w' F f (r.set m (0)) s ∧ Oth B F f.gR f.gS w w' := by
  have H := Hid.mk h
  clear h
  have m0 : (0 : Int) ≤ (m : Int) := by omega
  have m1 : (m : Int) < (f.nr : Int) := by omega
  go_enter Tryz.func152, Tryz.ntmps152
  go_wp2_with fail
  obtain ⟨W, hW⟩ : ∃ W, W = w.alloc (.cells #[.int .i64 p, .int .i64 (m : Int), .int .i64 t, .int .i64 c] 133) := ⟨_, rfl⟩
  rw [← hW]
  have HO : Hid (Ok W F f r s) := by unfold Hid; rw [hW]; exact H.out.below (by go_grown)
  have HT : Hid (Oth B F f.gR f.gS w W) := by unfold Hid; rw [hW]; exact Oth.of_below (by go_grown) hB
  have KX : Hid (W.heap[w.heap.size]? = some (.cells #[.int .i64 p, .int .i64 (m : Int), .int .i64 t, .int .i64 c] 133)) := by unfold Hid; rw [hW]; exact blk_new _ _
  have hBW : B ≤ W.heap.size := by rw [hW, World.size_alloc]; omega
  have HM : Hid (W.heap[f.M]? = some (.cells (mcC mp) 153)) := by unfold Hid; rw [hW]; exact blk_alloc hM _
  have HI : Hid (InAt W.drew mp.b1 mp.b2 mp.b3 mp.I) := by unfold Hid; rw [hW]; exact hI.below (show Below w.heap.size w (w.alloc _).drew by go_grown)
  have wR : w.heap.size ≠ f.gR := by have := lt_of_cell (H.out.hr 0 (by rw [← H.out.nr]; omega)).1; omega
  clear hW hM hI
  have y7 := blk_cell HO.out.hF 7
  have y9 := blk_cell HO.out.hF 9
  have y10 := blk_cell HO.out.hF 10
  have x1 := blk_cell KX.out 1
  have x2 := blk_cell KX.out 2
  have n0 := blk_cell HM.out 0
  have n1 := blk_cell HM.out 1
  have n2 := blk_cell HM.out 2
  have n3 := blk_cell HM.out 3
  simp only [frC, mcC, List.getElem?_toArray, List.getElem?_cons_zero, List.getElem?_cons_succ] at y7 y9 y10 x1 x2 n0 n1 n2 n3
  have fR := H.out.fr
  have fS := H.out.fs
  rw [hq] at y10
  have HQ := Hid.mk hq
  clear hq
  go_region_held3 (fun w' => w'.cell? ⟨F, 7, none⟩ = some (.slice (some ⟨f.gR, 0, none⟩) f.nr f.cR) ∧ w'.cell? ⟨F, 9, none⟩ = some (.pointer (some ⟨f.M, 0, none⟩)) ∧ w'.cell? ⟨F, 10, none⟩ = some (.int .i64 (-1)) ∧ w'.cell? ⟨w.heap.size, 1, none⟩ = some (.int .i64 (m : Int)) ∧ w'.cell? ⟨w.heap.size, 2, none⟩ = some (.int .i64 t) ∧ w'.cell? ⟨f.M, 0, none⟩ = some (.slice mp.b1 mp.I.nV mp.d1) ∧ w'.cell? ⟨f.M, 1, none⟩ = some (.slice mp.b2 mp.I.nQ mp.d2) ∧ w'.cell? ⟨f.M, 2, none⟩ = some (.slice mp.b3 mp.I.nR mp.d3) ∧ w'.cell? ⟨f.M, 3, none⟩ = some (.int .i64 mp.v))
    (first | ((repeat' constructor) <;> first | exact cell_keep hb1 (by assumption) | exact (World.cell?_setCell_far _ _ _ _ (Ne.symm fR)).trans (by assumption) | exact (World.cell?_setCell_far _ _ _ _ (Ne.symm mR)).trans (by assumption) | exact (World.cell?_setCell_far _ _ _ _ (Ne.symm wR)).trans (by assumption) | exact (World.cell?_setCell_far _ _ _ _ (Ne.symm fS)).trans (by assumption) | exact (World.cell?_setCell_far _ _ _ _ (Ne.symm mS)).trans (by assumption) | exact (World.cell?_setCell_far _ _ _ _ (Ne.symm wS)).trans (by assumption) | exact (World.cell?_setCell_far _ _ _ _ (rS)).trans (by assumption) | exact (World.cell?_setCell_far _ _ _ _ (sR)).trans (by assumption)) | go_keep)
    ((go_at_call 153; refine (hasTagNo _ _ _ _ _ _ mp.I mp.v _ HI.out t).mono ?_; rintro e w1 ⟨rfl, hb1⟩; have y7' := cell_keep (W := W.drew) hb1 y7; have y9' := cell_keep (W := W.drew) hb1 y9; have y10' := cell_keep (W := W.drew) hb1 y10; have x1' := cell_keep (W := W.drew) hb1 x1; have x2' := cell_keep (W := W.drew) hb1 x2; have n0' := cell_keep (W := W.drew) hb1 n0; have n1' := cell_keep (W := W.drew) hb1 n1; have n2' := cell_keep (W := W.drew) hb1 n2; have n3' := cell_keep (W := W.drew) hb1 n3; have d0 := (((HO.out.below (w' := W.drew) (Below.refl _ _).drew).below hb1).hr m (by rw [← H.out.nr]; exact hm)).1; have d1 := (((HO.out.below (w' := W.drew) (Below.refl _ _).drew).below hb1).hr m (by rw [← H.out.nr]; exact hm)).2))
  have HO2 := Hid.mk ((HO.out.below (w' := W.drew) (Below.refl _ _).drew).below hb1)
  have HT2 := Hid.mk ((HT.out.trans (Oth.of_below (b := W.drew) (Below.refl _ _).drew hBW)).trans (Oth.of_below hb1 hBW))
  clear hb1
  all_goals go_wp2
  all_goals go_end0
  all_goals exact ⟨⟨_, rfl⟩, HO2.out.setR (by rw [← H.out.nr]; exact hm) _, HT2.out.set bR (Or.inr (Or.inl rfl)) _⟩

set_option maxHeartbeats 3200000 in
set_option maxRecDepth 100000 in
theorem tagAt (B F : Nat) (f : Fr) (r s : List Int) (w : World) (h : Ok w F f r s) (hB : B ≤ w.heap.size) (bF : B ≤ F) (bR : B ≤ f.gR) (bS : B ≤ f.gS) (hn : f.nr ≤ 1000) (mp : Mp) (M : Nat) (hM : w.heap[f.M]? = some (.cells (mcC mp) 153)) (mR : f.M ≠ f.gR) (mS : f.M ≠ f.gS) (hI : InAt w mp.b1 mp.b2 mp.b3 mp.I) (p t c : Int) (m : Nat) (hm : m < f.nr) (q : Nat) (hq : f.q = (q : Int)) (hq' : q < mp.I.nQ) (h0 : 0 ≤ (mp.I.Q q).b) (h1 : (mp.I.Q q).b ≤ 65535) (t0 : 0 ≤ t) (t1 : t ≤ 15) :
    Calls Tryz.prog 152 #[.pointer (some ⟨F, 0, none⟩), .agg #[.int .i64 p, .int .i64 (m : Int), .int .i64 t, .int .i64 c]] w fun e w' => (∃ v, e = .returned v) ∧ Ok w' F f (r.set m (bit (hasB (mp.I.Q q).b t))) s ∧ Oth B F f.gR f.gS w w' := by
  have H := Hid.mk h
  clear h
  have m0 : (0 : Int) ≤ (m : Int) := by omega
  have m1 : (m : Int) < (f.nr : Int) := by omega
  go_enter Tryz.func152, Tryz.ntmps152
  go_wp2_with fail
  obtain ⟨W, hW⟩ : ∃ W, W = w.alloc (.cells #[.int .i64 p, .int .i64 (m : Int), .int .i64 t, .int .i64 c] 133) := ⟨_, rfl⟩
  rw [← hW]
  have HO : Hid (Ok W F f r s) := by unfold Hid; rw [hW]; exact H.out.below (by go_grown)
  have HT : Hid (Oth B F f.gR f.gS w W) := by unfold Hid; rw [hW]; exact Oth.of_below (by go_grown) hB
  have KX : Hid (W.heap[w.heap.size]? = some (.cells #[.int .i64 p, .int .i64 (m : Int), .int .i64 t, .int .i64 c] 133)) := by unfold Hid; rw [hW]; exact blk_new _ _
  have hBW : B ≤ W.heap.size := by rw [hW, World.size_alloc]; omega
  have HM : Hid (W.heap[f.M]? = some (.cells (mcC mp) 153)) := by unfold Hid; rw [hW]; exact blk_alloc hM _
  have HI : Hid (InAt W.drew mp.b1 mp.b2 mp.b3 mp.I) := by unfold Hid; rw [hW]; exact hI.below (show Below w.heap.size w (w.alloc _).drew by go_grown)
  have wR : w.heap.size ≠ f.gR := by have := lt_of_cell (H.out.hr 0 (by rw [← H.out.nr]; omega)).1; omega
  clear hW hM hI
  have y7 := blk_cell HO.out.hF 7
  have y9 := blk_cell HO.out.hF 9
  have y10 := blk_cell HO.out.hF 10
  have x1 := blk_cell KX.out 1
  have x2 := blk_cell KX.out 2
  have n0 := blk_cell HM.out 0
  have n1 := blk_cell HM.out 1
  have n2 := blk_cell HM.out 2
  have n3 := blk_cell HM.out 3
  simp only [frC, mcC, List.getElem?_toArray, List.getElem?_cons_zero, List.getElem?_cons_succ] at y7 y9 y10 x1 x2 n0 n1 n2 n3
  have fR := H.out.fr
  have fS := H.out.fs
  rw [hq] at y10
  have HQ := Hid.mk hq
  clear hq
  go_region_held3 (fun w' => w'.cell? ⟨F, 7, none⟩ = some (.slice (some ⟨f.gR, 0, none⟩) f.nr f.cR) ∧ w'.cell? ⟨F, 9, none⟩ = some (.pointer (some ⟨f.M, 0, none⟩)) ∧ w'.cell? ⟨F, 10, none⟩ = some (.int .i64 (q : Int)) ∧ w'.cell? ⟨w.heap.size, 1, none⟩ = some (.int .i64 (m : Int)) ∧ w'.cell? ⟨w.heap.size, 2, none⟩ = some (.int .i64 t) ∧ w'.cell? ⟨f.M, 0, none⟩ = some (.slice mp.b1 mp.I.nV mp.d1) ∧ w'.cell? ⟨f.M, 1, none⟩ = some (.slice mp.b2 mp.I.nQ mp.d2) ∧ w'.cell? ⟨f.M, 2, none⟩ = some (.slice mp.b3 mp.I.nR mp.d3) ∧ w'.cell? ⟨f.M, 3, none⟩ = some (.int .i64 mp.v))
    (first | ((repeat' constructor) <;> first | exact cell_keep hb1 (by assumption) | exact (World.cell?_setCell_far _ _ _ _ (Ne.symm fR)).trans (by assumption) | exact (World.cell?_setCell_far _ _ _ _ (Ne.symm mR)).trans (by assumption) | exact (World.cell?_setCell_far _ _ _ _ (Ne.symm wR)).trans (by assumption) | exact (World.cell?_setCell_far _ _ _ _ (Ne.symm fS)).trans (by assumption) | exact (World.cell?_setCell_far _ _ _ _ (Ne.symm mS)).trans (by assumption) | exact (World.cell?_setCell_far _ _ _ _ (Ne.symm wS)).trans (by assumption) | exact (World.cell?_setCell_far _ _ _ _ (rS)).trans (by assumption) | exact (World.cell?_setCell_far _ _ _ _ (sR)).trans (by assumption)) | go_keep)
    ((go_at_call 153; refine (hasTagAt _ _ _ _ _ _ mp.I mp.v _ HI.out q t hq' h0 h1 t0 t1).mono ?_; rintro e w1 ⟨rfl, hb1⟩; have y7' := cell_keep (W := W.drew) hb1 y7; have y9' := cell_keep (W := W.drew) hb1 y9; have y10' := cell_keep (W := W.drew) hb1 y10; have x1' := cell_keep (W := W.drew) hb1 x1; have x2' := cell_keep (W := W.drew) hb1 x2; have n0' := cell_keep (W := W.drew) hb1 n0; have n1' := cell_keep (W := W.drew) hb1 n1; have n2' := cell_keep (W := W.drew) hb1 n2; have n3' := cell_keep (W := W.drew) hb1 n3; have d0 := (((HO.out.below (w' := W.drew) (Below.refl _ _).drew).below hb1).hr m (by rw [← H.out.nr]; exact hm)).1; have d1 := (((HO.out.below (w' := W.drew) (Below.refl _ _).drew).below hb1).hr m (by rw [← H.out.nr]; exact hm)).2))
  have HO2 := Hid.mk ((HO.out.below (w' := W.drew) (Below.refl _ _).drew).below hb1)
  have HT2 := Hid.mk ((HT.out.trans (Oth.of_below (b := W.drew) (Below.refl _ _).drew hBW)).trans (Oth.of_below hb1 hBW))
  clear hb1
  all_goals go_wp2
  all_goals go_end0
  all_goals exact ⟨⟨_, rfl⟩, HO2.out.setR (by rw [← H.out.nr]; exact hm) _, HT2.out.set bR (Or.inr (Or.inl rfl)) _⟩

set_option maxHeartbeats 3200000 in
set_option maxRecDepth 100000 in
theorem skillAt (B F : Nat) (f : Fr) (r s : List Int) (w : World) (h : Ok w F f r s) (hB : B ≤ w.heap.size) (bF : B ≤ F) (bR : B ≤ f.gR) (bS : B ≤ f.gS) (hn : f.nr ≤ 1000) (mp : Mp) (M : Nat) (hM : w.heap[f.M]? = some (.cells (mcC mp) 153)) (mR : f.M ≠ f.gR) (mS : f.M ≠ f.gS) (hI : InAt w mp.b1 mp.b2 mp.b3 mp.I) (p t c : Int) (m : Nat) (hm : m < f.nr) (v : Nat) (hv : mp.v = (v : Int)) (hv' : v < mp.I.nV) (h0 : 0 ≤ (mp.I.V v).b) (h1 : (mp.I.V v).b ≤ 65535) (t0 : 0 ≤ t) (t1 : t ≤ 15) :
    Calls Tryz.prog 154 #[.pointer (some ⟨F, 0, none⟩), .agg #[.int .i64 p, .int .i64 (m : Int), .int .i64 t, .int .i64 c]] w fun e w' => (∃ v, e = .returned v) ∧ Ok w' F f (r.set m (bit (hasB (mp.I.V v).b t))) s ∧ Oth B F f.gR f.gS w w' := by
  have H := Hid.mk h
  clear h
  have m0 : (0 : Int) ≤ (m : Int) := by omega
  have m1 : (m : Int) < (f.nr : Int) := by omega
  go_enter Tryz.func154, Tryz.ntmps154
  go_wp2_with fail
  obtain ⟨W, hW⟩ : ∃ W, W = w.alloc (.cells #[.int .i64 p, .int .i64 (m : Int), .int .i64 t, .int .i64 c] 133) := ⟨_, rfl⟩
  rw [← hW]
  have HO : Hid (Ok W F f r s) := by unfold Hid; rw [hW]; exact H.out.below (by go_grown)
  have HT : Hid (Oth B F f.gR f.gS w W) := by unfold Hid; rw [hW]; exact Oth.of_below (by go_grown) hB
  have KX : Hid (W.heap[w.heap.size]? = some (.cells #[.int .i64 p, .int .i64 (m : Int), .int .i64 t, .int .i64 c] 133)) := by unfold Hid; rw [hW]; exact blk_new _ _
  have hBW : B ≤ W.heap.size := by rw [hW, World.size_alloc]; omega
  have HM : Hid (W.heap[f.M]? = some (.cells (mcC mp) 153)) := by unfold Hid; rw [hW]; exact blk_alloc hM _
  have HI : Hid (InAt W.drew mp.b1 mp.b2 mp.b3 mp.I) := by unfold Hid; rw [hW]; exact hI.below (show Below w.heap.size w (w.alloc _).drew by go_grown)
  have wR : w.heap.size ≠ f.gR := by have := lt_of_cell (H.out.hr 0 (by rw [← H.out.nr]; omega)).1; omega
  clear hW hM hI
  have y7 := blk_cell HO.out.hF 7
  have y9 := blk_cell HO.out.hF 9
  have x1 := blk_cell KX.out 1
  have x2 := blk_cell KX.out 2
  have n0 := blk_cell HM.out 0
  have n1 := blk_cell HM.out 1
  have n2 := blk_cell HM.out 2
  have n3 := blk_cell HM.out 3
  simp only [frC, mcC, List.getElem?_toArray, List.getElem?_cons_zero, List.getElem?_cons_succ] at y7 y9 x1 x2 n0 n1 n2 n3
  have fR := H.out.fr
  have fS := H.out.fs
  rw [hv] at n3
  clear hv
  go_region_held3 (fun w' => w'.cell? ⟨F, 7, none⟩ = some (.slice (some ⟨f.gR, 0, none⟩) f.nr f.cR) ∧ w'.cell? ⟨F, 9, none⟩ = some (.pointer (some ⟨f.M, 0, none⟩)) ∧ w'.cell? ⟨w.heap.size, 1, none⟩ = some (.int .i64 (m : Int)) ∧ w'.cell? ⟨w.heap.size, 2, none⟩ = some (.int .i64 t) ∧ w'.cell? ⟨f.M, 0, none⟩ = some (.slice mp.b1 mp.I.nV mp.d1) ∧ w'.cell? ⟨f.M, 1, none⟩ = some (.slice mp.b2 mp.I.nQ mp.d2) ∧ w'.cell? ⟨f.M, 2, none⟩ = some (.slice mp.b3 mp.I.nR mp.d3) ∧ w'.cell? ⟨f.M, 3, none⟩ = some (.int .i64 (v : Int)))
    (first | ((repeat' constructor) <;> first | exact cell_keep hb1 (by assumption) | exact (World.cell?_setCell_far _ _ _ _ (Ne.symm fR)).trans (by assumption) | exact (World.cell?_setCell_far _ _ _ _ (Ne.symm mR)).trans (by assumption) | exact (World.cell?_setCell_far _ _ _ _ (Ne.symm wR)).trans (by assumption) | exact (World.cell?_setCell_far _ _ _ _ (Ne.symm fS)).trans (by assumption) | exact (World.cell?_setCell_far _ _ _ _ (Ne.symm mS)).trans (by assumption) | exact (World.cell?_setCell_far _ _ _ _ (Ne.symm wS)).trans (by assumption) | exact (World.cell?_setCell_far _ _ _ _ (rS)).trans (by assumption) | exact (World.cell?_setCell_far _ _ _ _ (sR)).trans (by assumption)) | go_keep)
    ((go_at_call 155; refine (hasSkillAt _ _ _ _ _ _ mp.I v _ HI.out t hv' h0 h1 t0 t1).mono ?_; rintro e w1 ⟨rfl, hb1⟩; have y7' := cell_keep (W := W.drew) hb1 y7; have y9' := cell_keep (W := W.drew) hb1 y9; have x1' := cell_keep (W := W.drew) hb1 x1; have x2' := cell_keep (W := W.drew) hb1 x2; have n0' := cell_keep (W := W.drew) hb1 n0; have n1' := cell_keep (W := W.drew) hb1 n1; have n2' := cell_keep (W := W.drew) hb1 n2; have n3' := cell_keep (W := W.drew) hb1 n3; have d0 := (((HO.out.below (w' := W.drew) (Below.refl _ _).drew).below hb1).hr m (by rw [← H.out.nr]; exact hm)).1; have d1 := (((HO.out.below (w' := W.drew) (Below.refl _ _).drew).below hb1).hr m (by rw [← H.out.nr]; exact hm)).2))
  have HO2 := Hid.mk ((HO.out.below (w' := W.drew) (Below.refl _ _).drew).below hb1)
  have HT2 := Hid.mk ((HT.out.trans (Oth.of_below (b := W.drew) (Below.refl _ _).drew hBW)).trans (Oth.of_below hb1 hBW))
  clear hb1
  all_goals go_wp2
  all_goals go_end0
  all_goals exact ⟨⟨_, rfl⟩, HO2.out.setR (by rw [← H.out.nr]; exact hm) _, HT2.out.set bR (Or.inr (Or.inl rfl)) _⟩

end Go.Proofs.YtgooegcmgejfpaaGreatDoor.Mac
