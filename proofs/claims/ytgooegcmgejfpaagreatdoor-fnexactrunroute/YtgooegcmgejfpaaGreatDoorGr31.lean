import Derived.Test.YtgooegcmgejfpaaGreatDoorGr18
import Derived.Deep.RegionHeld3
import Derived.Deep.DeepCutAuto
import Derived.Test.YtgooegcmgejfpaaGreatDoorGr19
namespace Go.Proofs.YtgooegcmgejfpaaGreatDoor.Mac
open Go Go.RowKit Go.Proofs.YtgooegcmgejfpaaGreatDoor.Mem
set_option linter.unusedVariables false
set_option linter.unusedSimpArgs false
attribute [local go_sem ↓] Go.wp_at_zero Go.wp_at_succ

theorem wp_build' {P : Program} {o : Oper} {a : Act} {w : World} {K : Act → World → Prop} {Q : Exit → Act → World → Prop} (t : TypeId) (parts : Array (Nat × Operand)) (ho : o.op = .build t parts) (cells : Array Value) (h0 : P.built t (parts.map fun (i, x) => (i, a.eval x)).toList = some cells) (h : K (a.put o.dst (.agg cells)) w) : o.wp P a w K Q :=
  wp_build t parts ho (by rw [h0]; rfl) (by rw [h0]; exact h)
theorem Boxes.up {w : World} {B B' k5 k6 k7 k8 k9 k10 k11 k12 : Nat} (h : Boxes w B k5 k6 k7 k8 k9 k10 k11 k12) (hb : B' ≤ B) : Boxes w B' k5 k6 k7 k8 k9 k10 k11 k12 := ⟨h.b5, Nat.le_trans hb h.g5, h.b6, Nat.le_trans hb h.g6, h.b7, Nat.le_trans hb h.g7, h.b8, Nat.le_trans hb h.g8, h.b9, Nat.le_trans hb h.g9, h.b10, Nat.le_trans hb h.g10, h.b11, Nat.le_trans hb h.g11, h.b12, Nat.le_trans hb h.g12⟩
set_option maxHeartbeats 4000000 in
set_option maxRecDepth 100000 in
theorem machineI (a1 a2 a3 b1 b2 b3 : Option Addr) (c1 c2 c3 d1 d2 d3 : Nat) (C : Co) (I : In) (v : Int) (w : World) :
    Calls Tryz.prog 51 #[.agg #[.int .i64 C.R, .int .i64 C.S, .slice a1 C.n1 c1, .slice a2 C.n2 c2, .slice a3 C.n3 c3], .agg #[.slice b1 I.nV d1, .slice b2 I.nQ d2, .slice b3 I.nR d3], .int .i64 v] w fun e w' => ∃ (mp : Mp) (M : Nat), e = .returned (.pointer (some ⟨M, 0, none⟩)) ∧ mp.a1 = a1 ∧ mp.a2 = a2 ∧ mp.a3 = a3 ∧ mp.b1 = b1 ∧ mp.b2 = b2 ∧ mp.b3 = b3 ∧ mp.c1 = c1 ∧ mp.c2 = c2 ∧ mp.c3 = c3 ∧ mp.d1 = d1 ∧ mp.d2 = d2 ∧ mp.d3 = d3 ∧ mp.C = C ∧ mp.I = I ∧ mp.v = v ∧ Below w.heap.size w w' ∧ w'.heap[M]? = some (.cells (mcC mp) 153) ∧ Boxes w' w.heap.size mp.k5 mp.k6 mp.k7 mp.k8 mp.k9 mp.k10 mp.k11 mp.k12 ∧ w.heap.size ≤ M := by
  go_enter Tryz.func51, Tryz.ntmps51
  go_wp2_with fail
  obtain ⟨W, hW⟩ : ∃ W, W = (w.alloc (.cells #[.int .i64 C.R, .int .i64 C.S, .slice a1 C.n1 c1, .slice a2 C.n2 c2, .slice a3 C.n3 c3] 38)).alloc (.cells #[.slice b1 I.nV d1, .slice b2 I.nQ d2, .slice b3 I.nR d3] 44) := ⟨_, rfl⟩
  rw [← hW]
  have K0 : Hid (W.heap[w.heap.size]? = some (.cells #[.int .i64 C.R, .int .i64 C.S, .slice a1 C.n1 c1, .slice a2 C.n2 c2, .slice a3 C.n3 c3] 38)) := by unfold Hid; rw [hW]; exact blk_alloc (blk_new _ _) _
  have K1 : Hid (W.heap[w.heap.size + 1]? = some (.cells #[.slice b1 I.nV d1, .slice b2 I.nQ d2, .slice b3 I.nR d3] 44)) := by unfold Hid; rw [hW]; exact blk_new1 _ _ _
  have HBW : Hid (Below w.heap.size w W) := by unfold Hid; rw [hW]; go_grown
  clear hW
  refine wp_region_held_drew (S := (fun w' => w'.cell? ⟨w.heap.size, 0, none⟩ = some (.int .i64 C.R) ∧ w'.cell? ⟨w.heap.size, 1, none⟩ = some (.int .i64 C.S) ∧ w'.cell? ⟨w.heap.size, 2, none⟩ = some (.slice a1 C.n1 c1) ∧ w'.cell? ⟨w.heap.size, 3, none⟩ = some (.slice a2 C.n2 c2) ∧ w'.cell? ⟨w.heap.size, 4, none⟩ = some (.slice a3 C.n3 c3) ∧ w'.cell? ⟨w.heap.size + 1, 0, none⟩ = some (.slice b1 I.nV d1) ∧ w'.cell? ⟨w.heap.size + 1, 1, none⟩ = some (.slice b2 I.nQ d2) ∧ w'.cell? ⟨w.heap.size + 1, 2, none⟩ = some (.slice b3 I.nR d3))) (by kernel_rfl) ?_ (fun hHeld => ?_)
  · exact ⟨by have := blk_cell K0.out 0; simpa using this, by have := blk_cell K0.out 1; simpa using this, by have := blk_cell K0.out 2; simpa using this, by have := blk_cell K0.out 3; simpa using this, by have := blk_cell K0.out 4; simpa using this, by have := blk_cell K1.out 0; simpa using this, by have := blk_cell K1.out 1; simpa using this, by have := blk_cell K1.out 2; simpa using this⟩
  refine wpAnyH_take (i := 0) (v := ?_) rfl (by kernel_rfl) (by kernel_rfl) (by kernel_rfl) (fun _ _ _ h => h) (Or.inl ⟨by rfl, ?_⟩) (by assumption) ?_
  rotate_left
  · intro w hSw; (try dsimp only at hSw); go_simp; (try with_reducible rfl)
  rotate_left
  simp only [Act.put, List.setIfInBounds_toArray, List.set_cons_zero, List.set_cons_succ, List.getElem_toArray, List.getElem_cons_zero, List.getElem_cons_succ]
  refine wpAnyH_take (i := 1) (v := ?_) rfl (by kernel_rfl) (by kernel_rfl) (by kernel_rfl) (fun _ _ _ h => h) (Or.inl ⟨by rfl, ?_⟩) (by assumption) ?_
  rotate_left
  · intro w hSw; (try dsimp only at hSw); go_simp; (try with_reducible rfl)
  rotate_left
  simp only [Act.put, List.setIfInBounds_toArray, List.set_cons_zero, List.set_cons_succ, List.getElem_toArray, List.getElem_cons_zero, List.getElem_cons_succ]
  refine wpAnyH_take (i := 2) (v := ?_) rfl (by kernel_rfl) (by kernel_rfl) (by kernel_rfl) (fun _ _ _ h => h) (Or.inl ⟨by rfl, ?_⟩) (by assumption) ?_
  rotate_left
  · intro w hSw; (try dsimp only at hSw); go_simp; (try with_reducible rfl)
  rotate_left
  simp only [Act.put, List.setIfInBounds_toArray, List.set_cons_zero, List.set_cons_succ, List.getElem_toArray, List.getElem_cons_zero, List.getElem_cons_succ]
  refine wpAnyH_take (i := 3) (v := ?_) rfl (by kernel_rfl) (by kernel_rfl) (by kernel_rfl) (fun _ _ _ h => h) (Or.inl ⟨by rfl, ?_⟩) (by assumption) ?_
  rotate_left
  · intro w hSw; (try dsimp only at hSw); go_simp; (try with_reducible rfl)
  rotate_left
  simp only [Act.put, List.setIfInBounds_toArray, List.set_cons_zero, List.set_cons_succ, List.getElem_toArray, List.getElem_cons_zero, List.getElem_cons_succ]
  refine wpAnyH_ready (rs := [4]) (by kernel_rfl) (by simp) ?_
  refine AllReadyH.cons rfl (fun K hK => ?_) ?_
  · go_simp
    refine (tableI _).mono ?_
    rintro e w1 ⟨k5, k6, k7, k8, k9, k10, k11, k12, rfl, hb1, hx1⟩
    have B1 := Hid.mk (below_then HBW.out.drew hb1)
    have L0 := Hid.mk (blk_below (w := W.drew) K0.out hb1)
    have L1 := Hid.mk (blk_below (w := W.drew) K1.out hb1)
    have X1 := Hid.mk hx1
    have s1 : Hid (w.heap.size + 1 < w1.heap.size) := blk_lt L1.out
    clear hb1 hx1
    refine hK.out _ _ ?_ (fun hHeld => ?_)
    · exact ⟨by have := blk_cell L0.out 0; simpa using this, by have := blk_cell L0.out 1; simpa using this, by have := blk_cell L0.out 2; simpa using this, by have := blk_cell L0.out 3; simpa using this, by have := blk_cell L0.out 4; simpa using this, by have := blk_cell L1.out 0; simpa using this, by have := blk_cell L1.out 1; simpa using this, by have := blk_cell L1.out 2; simpa using this⟩
    clear hK K
    (try simp only [Act.put, List.setIfInBounds_toArray, List.set_cons_zero, List.set_cons_succ, List.getElem_toArray, List.getElem_cons_zero, List.getElem_cons_succ])
    refine wpAnyH_ready (rs := [5]) (by kernel_rfl) (by simp) ?_
    refine AllReadyH.cons rfl (fun K hK => ?_) ?_
    · rw [if_pos (by rfl)]
      refine wp_build' 153 _ rfl (mcC ⟨a1, a2, a3, b1, b2, b3, c1, c2, c3, d1, d2, d3, C, I, v, k5, k6, k7, k8, k9, k10, k11, k12⟩) (by kernel_rfl) ?_
      refine hK.out _ _ ?_ (fun hHeld => ?_)
      · exact hHeld
      clear hK K
      (try simp only [Act.put, List.setIfInBounds_toArray, List.set_cons_zero, List.set_cons_succ, List.getElem_toArray, List.getElem_cons_zero, List.getElem_cons_succ])
      refine wpAnyH_ready (rs := [6]) (by kernel_rfl) (by simp) ?_
      refine AllReadyH.cons rfl (fun K hK => ?_) ?_
      · go_simp
        refine hK.out _ _ ?_ (fun hHeld => ?_)
        · (obtain ⟨h0, h1, h2, h3, h4, h5, h6, h7⟩ := id hHeld; exact ⟨cell_alloc' h0 _, cell_alloc' h1 _, cell_alloc' h2 _, cell_alloc' h3 _, cell_alloc' h4 _, cell_alloc' h5 _, cell_alloc' h6 _, cell_alloc' h7 _⟩)
        clear hK K
        (try simp only [Act.put, List.setIfInBounds_toArray, List.set_cons_zero, List.set_cons_succ, List.getElem_toArray, List.getElem_cons_zero, List.getElem_cons_succ])
        refine wpAnyH_ready (rs := [7]) (by kernel_rfl) (by simp) ?_
        refine AllReadyH.cons rfl (fun K hK => ?_) ?_
        · go_simp
          refine hK.out _ _ ?_ (fun hHeld => ?_)
          · exact hHeld
          clear hK K
          (try simp only [Act.put, List.setIfInBounds_toArray, List.set_cons_zero, List.set_cons_succ, List.getElem_toArray, List.getElem_cons_zero, List.getElem_cons_succ])
          refine wpAnyH_done (by kernel_rfl) ?_ _
          go_wp2
          go_ret
          refine ⟨⟨a1, a2, a3, b1, b2, b3, c1, c2, c3, d1, d2, d3, C, I, v, k5, k6, k7, k8, k9, k10, k11, k12⟩, w1.heap.size, rfl, rfl, rfl, rfl, rfl, rfl, rfl, rfl, rfl, rfl, rfl, rfl, rfl, rfl, rfl, rfl, ?_, ?_, ?_, ?_⟩
          · exact B1.out.alloc B1.out.size _
          · exact blk_new _ _
          · exact (X1.out.below (by go_grown)).up HBW.out.size
          · have := B1.out.size; omega
        exact AllReadyH.nil
      exact AllReadyH.nil
    exact AllReadyH.nil
  exact AllReadyH.nil
end Go.Proofs.YtgooegcmgejfpaaGreatDoor.Mac
namespace Go.Proofs.YtgooegcmgejfpaaGreatDoor.Mac
open Go Go.RowKit Go.Proofs.YtgooegcmgejfpaaGreatDoor.Mem Go.Proofs.YtgooegcmgejfpaaGreatDoor.Travel
open Go.Proofs.YtgooegcmgejfpaaGreatDoor.Valid (inB nodes nodes_bd)
open Go.Proofs.YtgooegcmgejfpaaGreatDoor.StV (stopB stopI stopS)
set_option linter.unusedVariables false
set_option linter.unusedSimpArgs false
attribute [local go_sem ↓] Go.wp_at_zero Go.wp_at_succ

/-- The attributes of position 0. -/
def startAt (I : In) (v : Nat) : List Value := [.int .i64 (plOf I v).o, .int .i64 0, .int .i64 0, .int .i64 0, .int .i64 0, .int .i64 0, .int .i64 (plOf I v).o, .int .i64 (plOf I v).c, .int .i64 (plOf I v).h, .int .i64 (I.V v).a, .int .i64 0, .int .i64 0, .int .i64 0]
theorem home_no {I : In} {v : Nat} (hv : v < I.nV) : stopB I (v : Int) = false := by
  have : decide ((I.nV : Int) ≤ (v : Int)) = false := by simp; omega
  unfold stopB inB
  rw [this]; rfl
set_option maxHeartbeats 4000000 in
set_option maxRecDepth 100000 in
theorem atStartI (b1 b2 b3 : Option Addr) (d1 d2 d3 : Nat) (I : In) (v : Nat) (w : World) (hI : InAt w b1 b2 b3 I) (h1 : I.nV ≤ 64) (h2 : I.nQ ≤ 1000) (hv : v < I.nV) :
    Calls Tryz.prog 107 #[.agg #[.slice b1 I.nV d1, .slice b2 I.nQ d2, .slice b3 I.nR d3, .int .i64 (v : Int)]] w fun e w' => e = .returned (.agg (startAt I v).toArray) ∧ Below w.heap.size w w' := by
  have HI := Hid.mk hI
  clear hI
  go_enter Tryz.func107, Tryz.ntmps107
  go_wp2_with fail
  refine (ofNodeI b1 b2 b3 d1 d2 d3 I v (v : Int) _ (HI.out.below (by go_grown)) h1 h2 hv (by omega) (by unfold nodes; omega)).mono ?_
  rintro e w1 ⟨rfl, hb⟩
  have HB1 := Hid.mk (below_then (w := w) (by go_grown) hb)
  have A1 := Hid.mk (blk_below (blk_new1 w _ _) hb)
  have q1 := blk_lt A1.out
  clear hb
  rw [show nodeAt I v (v : Int) = [.int .i64 0, .int .i64 0, .int .i64 0, .int .i64 0, .int .i64 0, .int .i64 0, .int .i64 (plOf I v).o, .int .i64 (plOf I v).c, .int .i64 (plOf I v).h, .int .i64 (I.V v).a, .int .i64 0, .int .i64 0, .int .i64 0] by unfold nodeAt; rw [home_no hv]; rfl]
  go_upto_region 3 with fail
  obtain ⟨X, hX⟩ : ∃ X, X = w1.alloc (.cells ([.int .i64 (plOf I v).o, .int .i64 0, .int .i64 0, .int .i64 0, .int .i64 0, .int .i64 0, .int .i64 (plOf I v).o, .int .i64 (plOf I v).c, .int .i64 (plOf I v).h, .int .i64 (I.V v).a, .int .i64 0, .int .i64 0, .int .i64 0]).toArray 156) := ⟨_, rfl⟩
  rw [← hX]
  have ET : Hid (X.heap[w1.heap.size]? = some (.cells ([.int .i64 (plOf I v).o, .int .i64 0, .int .i64 0, .int .i64 0, .int .i64 0, .int .i64 0, .int .i64 (plOf I v).o, .int .i64 (plOf I v).c, .int .i64 (plOf I v).h, .int .i64 (I.V v).a, .int .i64 0, .int .i64 0, .int .i64 0]).toArray 156)) := by unfold Hid; rw [hX]; exact blk_new _ _
  have E1 : Hid (X.heap[w.heap.size + 1]? = some (.cells ([.int .i64 0, .int .i64 0, .int .i64 0, .int .i64 0, .int .i64 0, .int .i64 0, .int .i64 0, .int .i64 0, .int .i64 0, .int .i64 0, .int .i64 0, .int .i64 0, .int .i64 0]).toArray 156)) := by unfold Hid; rw [hX]; exact blk_alloc A1.out _
  have HB4 : Hid (Below w.heap.size w X) := by unfold Hid; rw [hX]; exact HB1.out.alloc HB1.out.size _
  clear hX A1 HB1
  apply wp_region_lit
  refine wpList_load_pat _ _ w1.heap.size 0 [.int .i64 (plOf I v).o, .int .i64 0, .int .i64 0, .int .i64 0, .int .i64 0, .int .i64 0, .int .i64 (plOf I v).o, .int .i64 (plOf I v).c, .int .i64 (plOf I v).h, .int .i64 (I.V v).a, .int .i64 0, .int .i64 0, .int .i64 0] _ rfl (row_range ET.out) Tryz.underlying156 rfl infoAt ?_
  refine wpList_store_row rfl _ _ _ rfl (w.heap.size + 1) ([.int .i64 (plOf I v).o, .int .i64 0, .int .i64 0, .int .i64 0, .int .i64 0, .int .i64 0, .int .i64 (plOf I v).o, .int .i64 (plOf I v).c, .int .i64 (plOf I v).h, .int .i64 (I.V v).a, .int .i64 0, .int .i64 0, .int .i64 0]).toArray rfl rfl _ _ E1.out infoAt rfl (by simp [Value.oneCell']) ?_
  obtain ⟨Y, hY⟩ : ∃ Y, Y = X.setRow (w.heap.size + 1) ([.int .i64 (plOf I v).o, .int .i64 0, .int .i64 0, .int .i64 0, .int .i64 0, .int .i64 0, .int .i64 (plOf I v).o, .int .i64 (plOf I v).c, .int .i64 (plOf I v).h, .int .i64 (I.V v).a, .int .i64 0, .int .i64 0, .int .i64 0]).toArray := ⟨_, rfl⟩
  rw [← hY]
  have R0 : Hid (Y.heap[w.heap.size + 1]? = some (.cells ([.int .i64 (plOf I v).o, .int .i64 0, .int .i64 0, .int .i64 0, .int .i64 0, .int .i64 0, .int .i64 (plOf I v).o, .int .i64 (plOf I v).c, .int .i64 (plOf I v).h, .int .i64 (I.V v).a, .int .i64 0, .int .i64 0, .int .i64 0]).toArray 156)) := by unfold Hid; rw [hY]; exact row_self E1.out _
  have BY : Hid (Below w.heap.size w Y) := by unfold Hid; rw [hY]; exact row_below HB4.out (Nat.le_succ _) _
  clear hY ET E1 HB4
  go_wp2
  refine bodyPost_ret (results_cell_row Tryz.results107 _ _ (w.heap.size + 1) _ _ _ _ (by simp [Act.put]) R0.out Tryz.underlying156 rfl infoAt) rfl ?_
  exact ⟨rfl, BY.out⟩
end Go.Proofs.YtgooegcmgejfpaaGreatDoor.Mac
