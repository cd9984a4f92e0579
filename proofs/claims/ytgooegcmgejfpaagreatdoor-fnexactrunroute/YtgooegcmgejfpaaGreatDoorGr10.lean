import Derived.Test.YtgooegcmgejfpaaGreatDoorGr08
import Derived.Test.YtgooegcmgejfpaaGreatDoorGr02
import Derived.BigQuiet
import Derived.Deep.RegionHeld3
import Derived.Deep.DrawnRows
import Derived.StillTailTactics
namespace Go.Proofs.YtgooegcmgejfpaaGreatDoor.Mac
open Go Go.RowKit Go.Proofs.YtgooegcmgejfpaaGreatDoor.Mem
open Go.Proofs.YtgooegcmgejfpaaGreatDoor.Arith (cl cl_bd sadd smul addS mulS addI mulI ret_int)
set_option linter.unusedVariables false
set_option linter.unusedSimpArgs false
attribute [local go_sem ↓] Go.wp_at_zero Go.wp_at_succ

/-- The machine in memory: the instance, the vehicle, the code, the instructions. -/
structure Mp where
  (a1 a2 a3 b1 b2 b3 : Option Addr) (c1 c2 c3 d1 d2 d3 : Nat) (C : Co) (I : In) (v : Int) (k5 k6 k7 k8 k9 k10 k11 k12 : Nat)
def fnV (f : FuncId) : Value := .func (.func f) #[] #[]
def fnC (k : Nat) : Value := .func (.func 176) #[] #[.pointer (some ⟨k, 0, none⟩)]
def mcC (m : Mp) : Array Value := #[.slice m.b1 m.I.nV m.d1, .slice m.b2 m.I.nQ m.d2, .slice m.b3 m.I.nR m.d3, .int .i64 m.v, .int .i64 m.C.R, .int .i64 m.C.S, .slice m.a1 m.C.n1 m.c1, .slice m.a2 m.C.n2 m.c2, .slice m.a3 m.C.n3 m.c3,
  .nilFunc, fnV 138, fnV 139, fnV 140, fnV 141, fnC m.k5, fnC m.k6, fnC m.k7, fnC m.k8, fnC m.k9, fnC m.k10, fnC m.k11, fnC m.k12,
  fnV 152, fnV 154, fnV 156, fnV 158, fnV 159, fnV 160, fnV 161, fnV 162]
theorem jumptrue (B F : Nat) (f : Fr) (r s : List Int) (w : World) (h : Ok w F f r s) (hB : B ≤ w.heap.size) (bF : B ≤ F) (bR : B ≤ f.gR) (bS : B ≤ f.gS) (hn : f.nr ≤ 1000) (x : Int) :
    Calls Tryz.prog 157 #[.pointer (some ⟨F, 0, none⟩), .bool true, .int .i64 x] w fun e w' => (∃ v, e = .returned v) ∧ Ok w' F { f with nx := x } r s ∧ Oth B F f.gR f.gS w w' := by
  have H := Hid.mk h
  have y11 := blk_cell h.hF 11
  have z11 := blk_unfrozen h.hF 11
  simp only [frC, List.getElem?_toArray, List.getElem?_cons_zero, List.getElem?_cons_succ] at y11
  clear h
  go_enter Tryz.func157, Tryz.ntmps157
  go_wp2
  go_end0
  exact ⟨⟨_, rfl⟩, H.out.next x, (Oth.refl B F f.gR f.gS w).set (p := ⟨F, 11, none⟩) bF (Or.inl rfl) _⟩
theorem jumpfalse (B F : Nat) (f : Fr) (r s : List Int) (w : World) (h : Ok w F f r s) (hB : B ≤ w.heap.size) (bF : B ≤ F) (bR : B ≤ f.gR) (bS : B ≤ f.gS) (hn : f.nr ≤ 1000) (x : Int) :
    Calls Tryz.prog 157 #[.pointer (some ⟨F, 0, none⟩), .bool false, .int .i64 x] w fun e w' => (∃ v, e = .returned v) ∧ Ok w' F f r s ∧ Oth B F f.gR f.gS w w' := by
  have H := Hid.mk h
  have y11 := blk_cell h.hF 11
  have z11 := blk_unfrozen h.hF 11
  simp only [frC, List.getElem?_toArray, List.getElem?_cons_zero, List.getElem?_cons_succ] at y11
  clear h
  go_enter Tryz.func157, Tryz.ntmps157
  go_wp2
  go_end0
  exact ⟨⟨_, rfl⟩, H.out, Oth.refl _ _ _ _ _⟩
set_option maxHeartbeats 1600000 in
set_option maxRecDepth 100000 in
theorem jzT (B F : Nat) (f : Fr) (r s : List Int) (w : World) (h : Ok w F f r s) (hB : B ≤ w.heap.size) (bF : B ≤ F) (bR : B ≤ f.gR) (bS : B ≤ f.gS) (hn : f.nr ≤ 1000) (p x c : Int) (m : Nat) (hm : m < f.nr) (hz : r.getD m 0 = 0) :
    Calls Tryz.prog 156 #[.pointer (some ⟨F, 0, none⟩), .agg #[.int .i64 p, .int .i64 (m : Int), .int .i64 x, .int .i64 c]] w fun e w' => (∃ v, e = .returned v) ∧ Ok w' F { f with nx := x } r s ∧ Oth B F f.gR f.gS w w' := by
  have H := Hid.mk h
  clear h
  obtain ⟨A, hA⟩ : ∃ A, A = r.getD m 0 := ⟨_, rfl⟩
  have HA := Hid.mk hA
  rw [← hA] at hz
  clear hA
  subst hz
  have m0 : (0 : Int) ≤ (m : Int) := by omega
  have m1 : (m : Int) < (f.nr : Int) := by omega
  go_enter Tryz.func156, Tryz.ntmps156
  go_wp2_with fail
  obtain ⟨W, hW⟩ : ∃ W, W = w.alloc (.cells #[.int .i64 p, .int .i64 (m : Int), .int .i64 x, .int .i64 c] 133) := ⟨_, rfl⟩
  rw [← hW]
  have HO : Hid (Ok W F f r s) := by unfold Hid; rw [hW]; exact H.out.below (by go_grown)
  have HT : Hid (Oth B F f.gR f.gS w W) := by unfold Hid; rw [hW]; exact Oth.of_below (by go_grown) hB
  have KX : Hid (W.heap[w.heap.size]? = some (.cells #[.int .i64 p, .int .i64 (m : Int), .int .i64 x, .int .i64 c] 133)) := by unfold Hid; rw [hW]; exact blk_new _ _
  have hBW : B ≤ W.heap.size := by rw [hW, World.size_alloc]; omega
  clear hW
  have y7 := blk_cell HO.out.hF 7
  have x1 := blk_cell KX.out 1
  have x2 := blk_cell KX.out 2
  simp only [frC, List.getElem?_toArray, List.getElem?_cons_zero, List.getElem?_cons_succ] at y7 x1 x2
  obtain ⟨e0, -⟩ := HO.out.hr m (by rw [← H.out.nr]; exact hm)
  rw [← HA.out] at e0
  go_still_tail 13, (by kernel_rfl)
  clear y7 x1 x2 e0
  go_wp2_with fail
  refine (jumptrue B F f r s _ (HO.out.below (w' := W.drew) (Below.refl _ _).drew) hBW bF bR bS hn x).mono ?_
  rintro e w1 ⟨⟨v, rfl⟩, ho, ht⟩
  have HO1 := Hid.mk ho
  have HT1 := Hid.mk ((HT.out.trans (Oth.of_below (b := W.drew) (Below.refl _ _).drew hBW)).trans ht)
  clear ho ht
  go_wp2
  go_end0
  exact ⟨⟨_, rfl⟩, HO1.out, HT1.out⟩

set_option maxHeartbeats 1600000 in
set_option maxRecDepth 100000 in
theorem jzF (B F : Nat) (f : Fr) (r s : List Int) (w : World) (h : Ok w F f r s) (hB : B ≤ w.heap.size) (bF : B ≤ F) (bR : B ≤ f.gR) (bS : B ≤ f.gS) (hn : f.nr ≤ 1000) (p x c : Int) (m : Nat) (hm : m < f.nr) (hz : ¬ r.getD m 0 = 0) :
    Calls Tryz.prog 156 #[.pointer (some ⟨F, 0, none⟩), .agg #[.int .i64 p, .int .i64 (m : Int), .int .i64 x, .int .i64 c]] w fun e w' => (∃ v, e = .returned v) ∧ Ok w' F f r s ∧ Oth B F f.gR f.gS w w' := by
  have H := Hid.mk h
  clear h
  obtain ⟨A, hA⟩ : ∃ A, A = r.getD m 0 := ⟨_, rfl⟩
  have HA := Hid.mk hA
  rw [← hA] at hz
  clear hA
  have hz1 : (A == 0) = false := by simpa using hz
  have hz2 : (A != 0) = true := by simpa using hz
  clear hz
  have m0 : (0 : Int) ≤ (m : Int) := by omega
  have m1 : (m : Int) < (f.nr : Int) := by omega
  go_enter Tryz.func156, Tryz.ntmps156
  go_wp2_with fail
  obtain ⟨W, hW⟩ : ∃ W, W = w.alloc (.cells #[.int .i64 p, .int .i64 (m : Int), .int .i64 x, .int .i64 c] 133) := ⟨_, rfl⟩
  rw [← hW]
  have HO : Hid (Ok W F f r s) := by unfold Hid; rw [hW]; exact H.out.below (by go_grown)
  have HT : Hid (Oth B F f.gR f.gS w W) := by unfold Hid; rw [hW]; exact Oth.of_below (by go_grown) hB
  have KX : Hid (W.heap[w.heap.size]? = some (.cells #[.int .i64 p, .int .i64 (m : Int), .int .i64 x, .int .i64 c] 133)) := by unfold Hid; rw [hW]; exact blk_new _ _
  have hBW : B ≤ W.heap.size := by rw [hW, World.size_alloc]; omega
  clear hW
  have y7 := blk_cell HO.out.hF 7
  have x1 := blk_cell KX.out 1
  have x2 := blk_cell KX.out 2
  simp only [frC, List.getElem?_toArray, List.getElem?_cons_zero, List.getElem?_cons_succ] at y7 x1 x2
  obtain ⟨e0, -⟩ := HO.out.hr m (by rw [← H.out.nr]; exact hm)
  rw [← HA.out] at e0
  go_still_tail 13, (by kernel_rfl)
  clear y7 x1 x2 e0
  go_wp2_with fail
  refine (jumpfalse B F f r s _ (HO.out.below (w' := W.drew) (Below.refl _ _).drew) hBW bF bR bS hn x).mono ?_
  rintro e w1 ⟨⟨v, rfl⟩, ho, ht⟩
  have HO1 := Hid.mk ho
  have HT1 := Hid.mk ((HT.out.trans (Oth.of_below (b := W.drew) (Below.refl _ _).drew hBW)).trans ht)
  clear ho ht
  go_wp2
  go_end0
  exact ⟨⟨_, rfl⟩, HO1.out, HT1.out⟩

set_option maxHeartbeats 1600000 in
set_option maxRecDepth 100000 in
theorem jnzT (B F : Nat) (f : Fr) (r s : List Int) (w : World) (h : Ok w F f r s) (hB : B ≤ w.heap.size) (bF : B ≤ F) (bR : B ≤ f.gR) (bS : B ≤ f.gS) (hn : f.nr ≤ 1000) (p x c : Int) (m : Nat) (hm : m < f.nr) (hz : ¬ r.getD m 0 = 0) :
    Calls Tryz.prog 158 #[.pointer (some ⟨F, 0, none⟩), .agg #[.int .i64 p, .int .i64 (m : Int), .int .i64 x, .int .i64 c]] w fun e w' => (∃ v, e = .returned v) ∧ Ok w' F { f with nx := x } r s ∧ Oth B F f.gR f.gS w w' := by
  have H := Hid.mk h
  clear h
  obtain ⟨A, hA⟩ : ∃ A, A = r.getD m 0 := ⟨_, rfl⟩
  have HA := Hid.mk hA
  rw [← hA] at hz
  clear hA
  have hz1 : (A == 0) = false := by simpa using hz
  have hz2 : (A != 0) = true := by simpa using hz
  clear hz
  have m0 : (0 : Int) ≤ (m : Int) := by omega
  have m1 : (m : Int) < (f.nr : Int) := by omega
  go_enter Tryz.func158, Tryz.ntmps158
  go_wp2_with fail
  obtain ⟨W, hW⟩ : ∃ W, W = w.alloc (.cells #[.int .i64 p, .int .i64 (m : Int), .int .i64 x, .int .i64 c] 133) := ⟨_, rfl⟩
  rw [← hW]
  have HO : Hid (Ok W F f r s) := by unfold Hid; rw [hW]; exact H.out.below (by go_grown)
  have HT : Hid (Oth B F f.gR f.gS w W) := by unfold Hid; rw [hW]; exact Oth.of_below (by go_grown) hB
  have KX : Hid (W.heap[w.heap.size]? = some (.cells #[.int .i64 p, .int .i64 (m : Int), .int .i64 x, .int .i64 c] 133)) := by unfold Hid; rw [hW]; exact blk_new _ _
  have hBW : B ≤ W.heap.size := by rw [hW, World.size_alloc]; omega
  clear hW
  have y7 := blk_cell HO.out.hF 7
  have x1 := blk_cell KX.out 1
  have x2 := blk_cell KX.out 2
  simp only [frC, List.getElem?_toArray, List.getElem?_cons_zero, List.getElem?_cons_succ] at y7 x1 x2
  obtain ⟨e0, -⟩ := HO.out.hr m (by rw [← H.out.nr]; exact hm)
  rw [← HA.out] at e0
  go_still_tail 13, (by kernel_rfl)
  clear y7 x1 x2 e0
  go_wp2_with fail
  refine (jumptrue B F f r s _ (HO.out.below (w' := W.drew) (Below.refl _ _).drew) hBW bF bR bS hn x).mono ?_
  rintro e w1 ⟨⟨v, rfl⟩, ho, ht⟩
  have HO1 := Hid.mk ho
  have HT1 := Hid.mk ((HT.out.trans (Oth.of_below (b := W.drew) (Below.refl _ _).drew hBW)).trans ht)
  clear ho ht
  go_wp2
  go_end0
  exact ⟨⟨_, rfl⟩, HO1.out, HT1.out⟩

set_option maxHeartbeats 1600000 in
set_option maxRecDepth 100000 in
theorem jnzF (B F : Nat) (f : Fr) (r s : List Int) (w : World) (h : Ok w F f r s) (hB : B ≤ w.heap.size) (bF : B ≤ F) (bR : B ≤ f.gR) (bS : B ≤ f.gS) (hn : f.nr ≤ 1000) (p x c : Int) (m : Nat) (hm : m < f.nr) (hz : r.getD m 0 = 0) :
    Calls Tryz.prog 158 #[.pointer (some ⟨F, 0, none⟩), .agg #[.int .i64 p, .int .i64 (m : Int), .int .i64 x, .int .i64 c]] w fun e w' => (∃ v, e = .returned v) ∧ Ok w' F f r s ∧ Oth B F f.gR f.gS w w' := by
  have H := Hid.mk h
  clear h
  obtain ⟨A, hA⟩ : ∃ A, A = r.getD m 0 := ⟨_, rfl⟩
  have HA := Hid.mk hA
  rw [← hA] at hz
  clear hA
  subst hz
  have m0 : (0 : Int) ≤ (m : Int) := by omega
  have m1 : (m : Int) < (f.nr : Int) := by omega
  go_enter Tryz.func158, Tryz.ntmps158
  go_wp2_with fail
  obtain ⟨W, hW⟩ : ∃ W, W = w.alloc (.cells #[.int .i64 p, .int .i64 (m : Int), .int .i64 x, .int .i64 c] 133) := ⟨_, rfl⟩
  rw [← hW]
  have HO : Hid (Ok W F f r s) := by unfold Hid; rw [hW]; exact H.out.below (by go_grown)
  have HT : Hid (Oth B F f.gR f.gS w W) := by unfold Hid; rw [hW]; exact Oth.of_below (by go_grown) hB
  have KX : Hid (W.heap[w.heap.size]? = some (.cells #[.int .i64 p, .int .i64 (m : Int), .int .i64 x, .int .i64 c] 133)) := by unfold Hid; rw [hW]; exact blk_new _ _
  have hBW : B ≤ W.heap.size := by rw [hW, World.size_alloc]; omega
  clear hW
  have y7 := blk_cell HO.out.hF 7
  have x1 := blk_cell KX.out 1
  have x2 := blk_cell KX.out 2
  simp only [frC, List.getElem?_toArray, List.getElem?_cons_zero, List.getElem?_cons_succ] at y7 x1 x2
  obtain ⟨e0, -⟩ := HO.out.hr m (by rw [← H.out.nr]; exact hm)
  rw [← HA.out] at e0
  go_still_tail 13, (by kernel_rfl)
  clear y7 x1 x2 e0
  go_wp2_with fail
  refine (jumpfalse B F f r s _ (HO.out.below (w' := W.drew) (Below.refl _ _).drew) hBW bF bR bS hn x).mono ?_
  rintro e w1 ⟨⟨v, rfl⟩, ho, ht⟩
  have HO1 := Hid.mk ho
  have HT1 := Hid.mk ((HT.out.trans (Oth.of_below (b := W.drew) (Below.refl _ _).drew hBW)).trans ht)
  clear ho ht
  go_wp2
  go_end0
  exact ⟨⟨_, rfl⟩, HO1.out, HT1.out⟩

set_option maxHeartbeats 1600000 in
set_option maxRecDepth 100000 in
theorem goI (B F : Nat) (f : Fr) (r s : List Int) (w : World) (h : Ok w F f r s) (hB : B ≤ w.heap.size) (bF : B ≤ F) (bR : B ≤ f.gR) (bS : B ≤ f.gS) (hn : f.nr ≤ 1000) (p a x c : Int) :
    Calls Tryz.prog 159 #[.pointer (some ⟨F, 0, none⟩), .agg #[.int .i64 p, .int .i64 a, .int .i64 x, .int .i64 c]] w fun e w' => (∃ v, e = .returned v) ∧ Ok w' F { f with nx := x } r s ∧ Oth B F f.gR f.gS w w' := by
  have H := Hid.mk h
  clear h
  go_enter Tryz.func159, Tryz.ntmps159
  go_wp2_with fail
  obtain ⟨W, hW⟩ : ∃ W, W = w.alloc (.cells #[.int .i64 p, .int .i64 a, .int .i64 x, .int .i64 c] 133) := ⟨_, rfl⟩
  rw [← hW]
  have HO : Hid (Ok W F f r s) := by unfold Hid; rw [hW]; exact H.out.below (by go_grown)
  have HT : Hid (Oth B F f.gR f.gS w W) := by unfold Hid; rw [hW]; exact Oth.of_below (by go_grown) hB
  have KX : Hid (W.heap[w.heap.size]? = some (.cells #[.int .i64 p, .int .i64 a, .int .i64 x, .int .i64 c] 133)) := by unfold Hid; rw [hW]; exact blk_new _ _
  have hBW : B ≤ W.heap.size := by rw [hW, World.size_alloc]; omega
  clear hW
  refine (jumptrue B F f r s _ HO.out hBW bF bR bS hn x).mono ?_
  rintro e w1 ⟨⟨v, rfl⟩, ho, ht⟩
  have HO1 := Hid.mk ho
  have HT1 := Hid.mk (HT.out.trans ht)
  clear ho ht
  go_wp2
  go_end0
  exact ⟨⟨_, rfl⟩, HO1.out, HT1.out⟩

set_option maxHeartbeats 1600000 in
set_option maxRecDepth 100000 in
theorem checkT (B F : Nat) (f : Fr) (r s : List Int) (w : World) (h : Ok w F f r s) (hB : B ≤ w.heap.size) (bF : B ≤ F) (bR : B ≤ f.gR) (bS : B ≤ f.gS) (hn : f.nr ≤ 1000) (p x c : Int) (m : Nat) (hm : m < f.nr) (hz : r.getD m 0 = 0) :
    Calls Tryz.prog 160 #[.pointer (some ⟨F, 0, none⟩), .agg #[.int .i64 p, .int .i64 (m : Int), .int .i64 x, .int .i64 c]] w fun e w' => (∃ v, e = .returned v) ∧ Ok w' F { f with u := x } r s ∧ Oth B F f.gR f.gS w w' := by
  have H := Hid.mk h
  clear h
  obtain ⟨A, hA⟩ : ∃ A, A = r.getD m 0 := ⟨_, rfl⟩
  have HA := Hid.mk hA
  rw [← hA] at hz
  clear hA
  subst hz
  have m0 : (0 : Int) ≤ (m : Int) := by omega
  have m1 : (m : Int) < (f.nr : Int) := by omega
  go_enter Tryz.func160, Tryz.ntmps160
  go_wp2_with fail
  obtain ⟨W, hW⟩ : ∃ W, W = w.alloc (.cells #[.int .i64 p, .int .i64 (m : Int), .int .i64 x, .int .i64 c] 133) := ⟨_, rfl⟩
  rw [← hW]
  have HO : Hid (Ok W F f r s) := by unfold Hid; rw [hW]; exact H.out.below (by go_grown)
  have HT : Hid (Oth B F f.gR f.gS w W) := by unfold Hid; rw [hW]; exact Oth.of_below (by go_grown) hB
  have KX : Hid (W.heap[w.heap.size]? = some (.cells #[.int .i64 p, .int .i64 (m : Int), .int .i64 x, .int .i64 c] 133)) := by unfold Hid; rw [hW]; exact blk_new _ _
  have hBW : B ≤ W.heap.size := by rw [hW, World.size_alloc]; omega
  clear hW
  have y7 := blk_cell HO.out.hF 7
  have y1 := blk_cell HO.out.hF 1
  have x1 := blk_cell KX.out 1
  have x2 := blk_cell KX.out 2
  simp only [frC, List.getElem?_toArray, List.getElem?_cons_zero, List.getElem?_cons_succ] at y7 y1 x1 x2
  have z1 := blk_unfrozen HO.out.hF 1
  obtain ⟨e0, -⟩ := HO.out.hr m (by rw [← H.out.nr]; exact hm)
  rw [← HA.out] at e0
  go_quiet (fail)
  go_wp2
  go_end0
  exact ⟨⟨_, rfl⟩, (HO.out.rule x).below (below_drewN' (Below.refl _ _) _), (HT.out.set bF (Or.inl rfl) _).trans (Oth.of_below (below_drewN' (Below.refl _ _) _) (by rw [size_set]; exact hBW))⟩

set_option maxHeartbeats 1600000 in
set_option maxRecDepth 100000 in
theorem checkF (B F : Nat) (f : Fr) (r s : List Int) (w : World) (h : Ok w F f r s) (hB : B ≤ w.heap.size) (bF : B ≤ F) (bR : B ≤ f.gR) (bS : B ≤ f.gS) (hn : f.nr ≤ 1000) (p x c : Int) (m : Nat) (hm : m < f.nr) (hz : ¬ r.getD m 0 = 0) :
    Calls Tryz.prog 160 #[.pointer (some ⟨F, 0, none⟩), .agg #[.int .i64 p, .int .i64 (m : Int), .int .i64 x, .int .i64 c]] w fun e w' => (∃ v, e = .returned v) ∧ Ok w' F f r s ∧ Oth B F f.gR f.gS w w' := by
  have H := Hid.mk h
  clear h
  obtain ⟨A, hA⟩ : ∃ A, A = r.getD m 0 := ⟨_, rfl⟩
  have HA := Hid.mk hA
  rw [← hA] at hz
  clear hA
  have hz1 : (A == 0) = false := by simpa using hz
  clear hz
  have m0 : (0 : Int) ≤ (m : Int) := by omega
  have m1 : (m : Int) < (f.nr : Int) := by omega
  go_enter Tryz.func160, Tryz.ntmps160
  go_wp2_with fail
  obtain ⟨W, hW⟩ : ∃ W, W = w.alloc (.cells #[.int .i64 p, .int .i64 (m : Int), .int .i64 x, .int .i64 c] 133) := ⟨_, rfl⟩
  rw [← hW]
  have HO : Hid (Ok W F f r s) := by unfold Hid; rw [hW]; exact H.out.below (by go_grown)
  have HT : Hid (Oth B F f.gR f.gS w W) := by unfold Hid; rw [hW]; exact Oth.of_below (by go_grown) hB
  have KX : Hid (W.heap[w.heap.size]? = some (.cells #[.int .i64 p, .int .i64 (m : Int), .int .i64 x, .int .i64 c] 133)) := by unfold Hid; rw [hW]; exact blk_new _ _
  have hBW : B ≤ W.heap.size := by rw [hW, World.size_alloc]; omega
  clear hW
  have y7 := blk_cell HO.out.hF 7
  have x1 := blk_cell KX.out 1
  have x2 := blk_cell KX.out 2
  simp only [frC, List.getElem?_toArray, List.getElem?_cons_zero, List.getElem?_cons_succ] at y7 x1 x2
  obtain ⟨e0, -⟩ := HO.out.hr m (by rw [← H.out.nr]; exact hm)
  rw [← HA.out] at e0
  go_quiet (fail)
  go_wp2
  go_end0
  exact ⟨⟨_, rfl⟩, HO.out.below (below_drewN' (Below.refl _ _) _), HT.out.trans (Oth.of_below (below_drewN' (Below.refl _ _) _) hBW)⟩

end Go.Proofs.YtgooegcmgejfpaaGreatDoor.Mac
