import Derived.Test.YtgooegcmgejfpaaGreatDoorGs41
import Derived.Test.YtgooegcmgejfpaaGreatDoorGs05
import Derived.Deep.DrawnRows
namespace Go.Proofs.YtgooegcmgejfpaaGreatDoor.Mac
open Go Go.RowKit Go.Proofs.YtgooegcmgejfpaaGreatDoor.Mem Go.Proofs.YtgooegcmgejfpaaGreatDoor.Travel
open Go.Proofs.YtgooegcmgejfpaaGreatDoor.StV (okSt deadB failB runB validStI deadI)
set_option linter.unusedVariables false
set_option linter.unusedSimpArgs false
attribute [local go_sem ↓] Go.wp_at_zero Go.wp_at_succ

theorem iblk_new3 (w : World) (a b c d : Obj) : ((((w.alloc a).alloc b).alloc c).alloc d).heap[w.heap.size + 1 + 1 + 1]? = some d := by
  have := blk_new (((w.alloc a).alloc b).alloc c) d; simpa using this
theorem dead_p {C : Co} {I : In} {v : Int} {S : St} (h : okSt C I v S = true) : deadB S = true ↔ S.p = -1 := by
  unfold okSt at h
  simp only [Bool.and_eq_true, Bool.or_eq_true] at h
  constructor
  · intro hd; simp [deadB] at hd; exact hd.1.1
  · intro hp
    obtain ⟨_, (h | h) | h⟩ := h
    · exact h
    · simp [failB, Valid.inB] at h; omega
    · unfold runB at h
      simp only [Bool.and_eq_true] at h
      have h2 := h.1.1.1.1.1.1.1.2
      simp [Valid.inB] at h2
      omega
set_option maxHeartbeats 8000000 in
set_option maxRecDepth 100000 in
theorem finI (a1 a2 a3 b1 b2 b3 s1 s2 s3 : Option Addr) (c1 c2 c3 d1 d2 d3 t1 t2 t3 : Nat) (C : Co) (I : In) (v : Int) (S : St) (w : World) (hC : CoAt w a1 a2 a3 C) (hI : InAt w b1 b2 b3 I) (hS : StAt w s1 s2 s3 S) (k1 : C.n1 ≤ 1048576) (k2 : C.n2 ≤ 1048576) (k3 : C.n3 ≤ 1048576) (h1 : I.nV ≤ 1048576) (h2 : I.nQ ≤ 1048576) (h3 : I.nR ≤ 1048576) (j1 : S.n1 ≤ 1048576) (j2 : S.n2 ≤ 1048576) (j3 : S.n3 ≤ 1048576) (hT : ValC.TabC w) :
    Calls Tryz.prog 25 #[.agg #[.int .i64 C.R, .int .i64 C.S, .slice a1 C.n1 c1, .slice a2 C.n2 c2, .slice a3 C.n3 c3], .agg #[.slice b1 I.nV d1, .slice b2 I.nQ d2, .slice b3 I.nR d3], .int .i64 v, .agg #[.int .i64 S.p, .int .i64 S.r, .int .i64 S.d, .int .i64 S.t, .int .i64 S.s, .int .i64 S.l, .slice s1 S.n1 t1, .slice s2 S.n2 t2, .slice s3 S.n3 t3]] w fun e w' => e = .returned (.agg #[.int .i64 (finB C I v S).1, .int .i64 (finB C I v S).2.1, .int .i64 (finB C I v S).2.2]) ∧ Below w.heap.size w w' := by
  have HC := Hid.mk hC
  have HI := Hid.mk hI
  have HS := Hid.mk hS
  have HT := Hid.mk hT
  clear hC hI hS hT
  go_enter Tryz.func25, Tryz.ntmps25
  go_wp2_with fail
  refine (validStI a1 a2 a3 b1 b2 b3 s1 s2 s3 c1 c2 c3 d1 d2 d3 t1 t2 t3 C I v S _ (HC.out.below (by go_grown)) (HI.out.below (by go_grown)) (HS.out.below (by go_grown)) (by omega) (by omega) (by omega) (by omega) (by omega) (by omega) (by omega) (by omega) (by omega) (HT.out.below (by go_grown))).mono ?_
  rintro e w1 ⟨rfl, hb⟩
  have HB := Hid.mk (below_then (w := w) (by go_grown) hb)
  have A0 := Hid.mk (blk_below (blk_alloc (blk_alloc (blk_alloc (blk_new w _) _) _) _) hb)
  have A1 := Hid.mk (blk_below (blk_alloc (blk_alloc (blk_new1 w _ _) _) _) hb)
  have A2 := Hid.mk (blk_below (blk_alloc (blk_new2 w _ _ _) _) hb)
  have A3 := Hid.mk (blk_below (iblk_new3 w _ _ _ _) hb)
  clear hb
  cases hok : okSt C I v S with
  | false =>
    have HF : Hid (finB C I v S = (0, 0, 0)) := by unfold Hid finB; rw [if_pos (Or.inl hok)]
    have v0 := blk_cell A3.out 0
    have v1 := blk_cell A3.out 1
    have v2 := blk_cell A3.out 2
    have u0 := blk_unfrozen A3.out 0
    have u1 := blk_unfrozen A3.out 1
    have u2 := blk_unfrozen A3.out 2
    simp only [List.getElem?_toArray, List.getElem?_cons_zero, List.getElem?_cons_succ] at v0 v1 v2
    go_wp2
    refine bodyPost_ret (results_cell_row Tryz.results25 _ _ (w.heap.size + 1 + 1 + 1) _ _ _ _ (by simp [Act.put]) (vsetI A3.out _ _ _) Tryz.underlying59 rfl infoVdI) rfl ?_
    exact ⟨by rw [HF.out], vbelI HB.out (by omega) _ _ _⟩
  | true =>
    have hd := dead_p hok
    have HOK := Hid.mk hok
    clear hok
    have y0 := blk_cell A2.out 0
    have y1 := blk_cell A2.out 1
    have y2 := blk_cell A2.out 2
    have y3 := blk_cell A2.out 3
    have y4 := blk_cell A2.out 4
    have y5 := blk_cell A2.out 5
    have y6 := blk_cell A2.out 6
    have y7 := blk_cell A2.out 7
    have y8 := blk_cell A2.out 8
    simp only [List.getElem?_toArray, List.getElem?_cons_zero, List.getElem?_cons_succ] at y0 y1 y2 y3 y4 y5 y6 y7 y8
    have HD := Hid.mk hd
    clear hd
    go_wp2_with fail
    refine (deadI s1 s2 s3 t1 t2 t3 S _).mono ?_
    rintro e w2 ⟨rfl, hb⟩
    have HB := Hid.mk (below_then HB.out hb)
    have A0 := Hid.mk (blk_below A0.out hb)
    have A1 := Hid.mk (blk_below A1.out hb)
    have A2 := Hid.mk (blk_below A2.out hb)
    have A3 := Hid.mk (blk_below A3.out hb)
    clear hb y0 y1 y2 y3 y4 y5 y6 y7 y8
    cases hdd : deadB S with
    | true =>
      have HF : Hid (finB C I v S = (0, 0, 0)) := by unfold Hid finB; rw [if_pos (Or.inr (HD.out.1 hdd))]
      have v0 := blk_cell A3.out 0
      have v1 := blk_cell A3.out 1
      have v2 := blk_cell A3.out 2
      have u0 := blk_unfrozen A3.out 0
      have u1 := blk_unfrozen A3.out 1
      have u2 := blk_unfrozen A3.out 2
      simp only [List.getElem?_toArray, List.getElem?_cons_zero, List.getElem?_cons_succ] at v0 v1 v2
      go_wp2
      refine bodyPost_ret (results_cell_row Tryz.results25 _ _ (w.heap.size + 1 + 1 + 1) _ _ _ _ (by simp [Act.put]) (vsetI A3.out _ _ _) Tryz.underlying59 rfl infoVdI) rfl ?_
      exact ⟨by rw [HF.out], vbelI HB.out (by omega) _ _ _⟩
    | false =>
      have hp : Hid (S.p ≠ -1) := fun h => by rw [HD.out.2 h] at hdd; cases hdd
      go_upto_region 3 with fail
      have HSS := Hid.mk (show w2.cell? ⟨w.heap.size, 0, none⟩ = some (.int .i64 C.R) ∧ w2.cell? ⟨w.heap.size, 1, none⟩ = some (.int .i64 C.S) ∧ w2.cell? ⟨w.heap.size, 2, none⟩ = some (.slice a1 C.n1 c1) ∧ w2.cell? ⟨w.heap.size, 3, none⟩ = some (.slice a2 C.n2 c2) ∧ w2.cell? ⟨w.heap.size, 4, none⟩ = some (.slice a3 C.n3 c3) ∧ w2.cell? ⟨w.heap.size + 1, 0, none⟩ = some (.slice b1 I.nV d1) ∧ w2.cell? ⟨w.heap.size + 1, 1, none⟩ = some (.slice b2 I.nQ d2) ∧ w2.cell? ⟨w.heap.size + 1, 2, none⟩ = some (.slice b3 I.nR d3) ∧ w2.cell? ⟨w.heap.size + 1 + 1, 0, none⟩ = some (.int .i64 S.p) ∧ w2.cell? ⟨w.heap.size + 1 + 1, 1, none⟩ = some (.int .i64 S.r) ∧ w2.cell? ⟨w.heap.size + 1 + 1, 2, none⟩ = some (.int .i64 S.d) ∧ w2.cell? ⟨w.heap.size + 1 + 1, 3, none⟩ = some (.int .i64 S.t) ∧ w2.cell? ⟨w.heap.size + 1 + 1, 4, none⟩ = some (.int .i64 S.s) ∧ w2.cell? ⟨w.heap.size + 1 + 1, 5, none⟩ = some (.int .i64 S.l) ∧ w2.cell? ⟨w.heap.size + 1 + 1, 6, none⟩ = some (.slice s1 S.n1 t1) ∧ w2.cell? ⟨w.heap.size + 1 + 1, 7, none⟩ = some (.slice s2 S.n2 t2) ∧ w2.cell? ⟨w.heap.size + 1 + 1, 8, none⟩ = some (.slice s3 S.n3 t3) from ⟨by simpa using blk_cell A0.out 0, by simpa using blk_cell A0.out 1, by simpa using blk_cell A0.out 2, by simpa using blk_cell A0.out 3, by simpa using blk_cell A0.out 4, by simpa using blk_cell A1.out 0, by simpa using blk_cell A1.out 1, by simpa using blk_cell A1.out 2, by simpa using blk_cell A2.out 0, by simpa using blk_cell A2.out 1, by simpa using blk_cell A2.out 2, by simpa using blk_cell A2.out 3, by simpa using blk_cell A2.out 4, by simpa using blk_cell A2.out 5, by simpa using blk_cell A2.out 6, by simpa using blk_cell A2.out 7, by simpa using blk_cell A2.out 8⟩)
      have HB := Hid.mk HB.out.drew
      have A3 := Hid.mk (mblk_drew A3.out)
      refine wp_region_held_drew (S := (fun w' => w'.cell? ⟨w.heap.size, 0, none⟩ = some (.int .i64 C.R) ∧ w'.cell? ⟨w.heap.size, 1, none⟩ = some (.int .i64 C.S) ∧ w'.cell? ⟨w.heap.size, 2, none⟩ = some (.slice a1 C.n1 c1) ∧ w'.cell? ⟨w.heap.size, 3, none⟩ = some (.slice a2 C.n2 c2) ∧ w'.cell? ⟨w.heap.size, 4, none⟩ = some (.slice a3 C.n3 c3) ∧ w'.cell? ⟨w.heap.size + 1, 0, none⟩ = some (.slice b1 I.nV d1) ∧ w'.cell? ⟨w.heap.size + 1, 1, none⟩ = some (.slice b2 I.nQ d2) ∧ w'.cell? ⟨w.heap.size + 1, 2, none⟩ = some (.slice b3 I.nR d3) ∧ w'.cell? ⟨w.heap.size + 1 + 1, 0, none⟩ = some (.int .i64 S.p) ∧ w'.cell? ⟨w.heap.size + 1 + 1, 1, none⟩ = some (.int .i64 S.r) ∧ w'.cell? ⟨w.heap.size + 1 + 1, 2, none⟩ = some (.int .i64 S.d) ∧ w'.cell? ⟨w.heap.size + 1 + 1, 3, none⟩ = some (.int .i64 S.t) ∧ w'.cell? ⟨w.heap.size + 1 + 1, 4, none⟩ = some (.int .i64 S.s) ∧ w'.cell? ⟨w.heap.size + 1 + 1, 5, none⟩ = some (.int .i64 S.l) ∧ w'.cell? ⟨w.heap.size + 1 + 1, 6, none⟩ = some (.slice s1 S.n1 t1) ∧ w'.cell? ⟨w.heap.size + 1 + 1, 7, none⟩ = some (.slice s2 S.n2 t2) ∧ w'.cell? ⟨w.heap.size + 1 + 1, 8, none⟩ = some (.slice s3 S.n3 t3))) (by kernel_rfl) ?_ (fun hHeld => ?_)
      · exact HSS.out
      refine wpAnyH_take (i := 0) (v := ?_) rfl (by kernel_rfl) (by kernel_rfl) (by kernel_rfl) (fun _ _ _ h => h) (Or.inl ⟨by rfl, ?_⟩) (by assumption) ?_
      rotate_left
      · intro w hSw; (try dsimp only at hSw); go_simp; (try with_reducible rfl)
      rotate_left
      simp only [Act.put, List.setIfInBounds_toArray, List.set_cons_zero, List.set_cons_succ, List.getElem_toArray, List.getElem_cons_zero, List.getElem_cons_succ]
      refine wpAnyH_take (i := 1) (v := ?_) rfl (by kernel_rfl) (by kernel_rfl) (by kernel_rfl) (fun _ _ _ h => h) (Or.inl ⟨by rfl, ?_⟩) (by assumption) ?_
      rotate_left
      · intro w hSw; (try dsimp only at hSw); go_simp; (try with_reducible rfl)
      rotate_left
      simp only [Act.put, List.setIfInBounds_toArray, List.set_cons_zero, List.set_cons_succ, List.getElem_toArray, List.getElem_cons_zero, List.getElem_cons_succ]
      refine wpAnyH_take (i := 2) (v := ?_) rfl (by kernel_rfl) (by kernel_rfl) (by kernel_rfl) (fun _ _ _ h => h) (Or.inl ⟨by rfl, ?_⟩) (by assumption) ?_
      rotate_left
      · intro w hSw; (try dsimp only at hSw); go_simp; (try with_reducible rfl)
      rotate_left
      simp only [Act.put, List.setIfInBounds_toArray, List.set_cons_zero, List.set_cons_succ, List.getElem_toArray, List.getElem_cons_zero, List.getElem_cons_succ]
      refine wpAnyH_take (i := 4) (v := ?_) rfl (by kernel_rfl) (by kernel_rfl) (by kernel_rfl) (fun _ _ _ h => h) (Or.inl ⟨by rfl, ?_⟩) (by assumption) ?_
      rotate_left
      · intro w hSw; (try dsimp only at hSw); go_simp; (try with_reducible rfl)
      rotate_left
      simp only [Act.put, List.setIfInBounds_toArray, List.set_cons_zero, List.set_cons_succ, List.getElem_toArray, List.getElem_cons_zero, List.getElem_cons_succ]
      refine wpAnyH_ready (rs := [3]) (by kernel_rfl) (by simp) ?_
      refine AllReadyH.cons rfl (fun K hK => ?_) ?_
      · go_simp
        refine (machineI a1 a2 a3 b1 b2 b3 c1 c2 c3 d1 d2 d3 C I v _).mono ?_
        rintro e w3 ⟨mp, M, rfl, ea1, ea2, ea3, eb1, eb2, eb3, -, -, -, -, -, -, eC, eI, ev, hb, hM, hBx, -⟩
        have HB := Hid.mk (below_then HB.out hb)
        have A3 := Hid.mk (blk_below A3.out hb)
        have MA : Hid (Mach w3 M mp C I v) := Hid.mk ⟨hM, ⟨_, hBx⟩, by rw [ea1, ea2, ea3]; exact HC.out.below HB.out, by rw [eb1, eb2, eb3]; exact HI.out.below HB.out, eC, eI, ev⟩
        have h3 : Hid True := trivial
        refine hK.out _ _ ?_ (fun hHeld => ?_)
        · exact ⟨cell_keep hb hHeld.1, cell_keep hb hHeld.2.1, cell_keep hb hHeld.2.2.1, cell_keep hb hHeld.2.2.2.1, cell_keep hb hHeld.2.2.2.2.1, cell_keep hb hHeld.2.2.2.2.2.1, cell_keep hb hHeld.2.2.2.2.2.2.1, cell_keep hb hHeld.2.2.2.2.2.2.2.1, cell_keep hb hHeld.2.2.2.2.2.2.2.2.1, cell_keep hb hHeld.2.2.2.2.2.2.2.2.2.1, cell_keep hb hHeld.2.2.2.2.2.2.2.2.2.2.1, cell_keep hb hHeld.2.2.2.2.2.2.2.2.2.2.2.1, cell_keep hb hHeld.2.2.2.2.2.2.2.2.2.2.2.2.1, cell_keep hb hHeld.2.2.2.2.2.2.2.2.2.2.2.2.2.1, cell_keep hb hHeld.2.2.2.2.2.2.2.2.2.2.2.2.2.2.1, cell_keep hb hHeld.2.2.2.2.2.2.2.2.2.2.2.2.2.2.2.1, cell_keep hb hHeld.2.2.2.2.2.2.2.2.2.2.2.2.2.2.2.2⟩
        clear hK K
        (try simp only [Act.put, List.setIfInBounds_toArray, List.set_cons_zero, List.set_cons_succ, List.getElem_toArray, List.getElem_cons_zero, List.getElem_cons_succ])
        refine wpAnyH_ready (rs := [5]) (by kernel_rfl) (by simp) ?_
        refine AllReadyH.cons rfl (fun K hK => ?_) ?_
        · go_simp
          have hMm := hHeld
          refine (goOnR s1 s2 s3 t1 t2 t3 M S _ (HS.out.below HB.out) j1 j2 j3).mono ?_
          rintro e w4 hg
          obtain ⟨F, rfl⟩ := gone_ret hg
          have hb := gone_below hg
          have HG := Hid.mk hg
          have HBo := HB
          have HB := Hid.mk (below_then HB.out hb)
          have A3o := A3
          have A3 := Hid.mk (blk_below A3.out hb)
          have hHold := hHeld
          refine hK.out _ _ ?_ (fun hHeld => ?_)
          · exact ⟨cell_keep hb hHeld.1, cell_keep hb hHeld.2.1, cell_keep hb hHeld.2.2.1, cell_keep hb hHeld.2.2.2.1, cell_keep hb hHeld.2.2.2.2.1, cell_keep hb hHeld.2.2.2.2.2.1, cell_keep hb hHeld.2.2.2.2.2.2.1, cell_keep hb hHeld.2.2.2.2.2.2.2.1, cell_keep hb hHeld.2.2.2.2.2.2.2.2.1, cell_keep hb hHeld.2.2.2.2.2.2.2.2.2.1, cell_keep hb hHeld.2.2.2.2.2.2.2.2.2.2.1, cell_keep hb hHeld.2.2.2.2.2.2.2.2.2.2.2.1, cell_keep hb hHeld.2.2.2.2.2.2.2.2.2.2.2.2.1, cell_keep hb hHeld.2.2.2.2.2.2.2.2.2.2.2.2.2.1, cell_keep hb hHeld.2.2.2.2.2.2.2.2.2.2.2.2.2.2.1, cell_keep hb hHeld.2.2.2.2.2.2.2.2.2.2.2.2.2.2.2.1, cell_keep hb hHeld.2.2.2.2.2.2.2.2.2.2.2.2.2.2.2.2⟩
          clear hK K
          (try simp only [Act.put, List.setIfInBounds_toArray, List.set_cons_zero, List.set_cons_succ, List.getElem_toArray, List.getElem_cons_zero, List.getElem_cons_succ])
          refine wpAnyH_ready (rs := [6]) (by kernel_rfl) (by simp) ?_
          refine AllReadyH.cons rfl (fun K hK => ?_) ?_
          · go_simp
            refine (finGo HOK.out hp.out MA.out HG.out).mono ?_
            rintro e w5 ⟨rfl, hb5⟩
            have HB := Hid.mk (below_then HBo.out hb5)
            have A3 := Hid.mk (blk_below A3o.out hb5)
            have hS6 := (show w5.cell? ⟨w.heap.size, 0, none⟩ = some (.int .i64 C.R) ∧ w5.cell? ⟨w.heap.size, 1, none⟩ = some (.int .i64 C.S) ∧ w5.cell? ⟨w.heap.size, 2, none⟩ = some (.slice a1 C.n1 c1) ∧ w5.cell? ⟨w.heap.size, 3, none⟩ = some (.slice a2 C.n2 c2) ∧ w5.cell? ⟨w.heap.size, 4, none⟩ = some (.slice a3 C.n3 c3) ∧ w5.cell? ⟨w.heap.size + 1, 0, none⟩ = some (.slice b1 I.nV d1) ∧ w5.cell? ⟨w.heap.size + 1, 1, none⟩ = some (.slice b2 I.nQ d2) ∧ w5.cell? ⟨w.heap.size + 1, 2, none⟩ = some (.slice b3 I.nR d3) ∧ w5.cell? ⟨w.heap.size + 1 + 1, 0, none⟩ = some (.int .i64 S.p) ∧ w5.cell? ⟨w.heap.size + 1 + 1, 1, none⟩ = some (.int .i64 S.r) ∧ w5.cell? ⟨w.heap.size + 1 + 1, 2, none⟩ = some (.int .i64 S.d) ∧ w5.cell? ⟨w.heap.size + 1 + 1, 3, none⟩ = some (.int .i64 S.t) ∧ w5.cell? ⟨w.heap.size + 1 + 1, 4, none⟩ = some (.int .i64 S.s) ∧ w5.cell? ⟨w.heap.size + 1 + 1, 5, none⟩ = some (.int .i64 S.l) ∧ w5.cell? ⟨w.heap.size + 1 + 1, 6, none⟩ = some (.slice s1 S.n1 t1) ∧ w5.cell? ⟨w.heap.size + 1 + 1, 7, none⟩ = some (.slice s2 S.n2 t2) ∧ w5.cell? ⟨w.heap.size + 1 + 1, 8, none⟩ = some (.slice s3 S.n3 t3) from ⟨cell_keep hb5 (hMm.1), cell_keep hb5 (hMm.2.1), cell_keep hb5 (hMm.2.2.1), cell_keep hb5 (hMm.2.2.2.1), cell_keep hb5 (hMm.2.2.2.2.1), cell_keep hb5 (hMm.2.2.2.2.2.1), cell_keep hb5 (hMm.2.2.2.2.2.2.1), cell_keep hb5 (hMm.2.2.2.2.2.2.2.1), cell_keep hb5 (hMm.2.2.2.2.2.2.2.2.1), cell_keep hb5 (hMm.2.2.2.2.2.2.2.2.2.1), cell_keep hb5 (hMm.2.2.2.2.2.2.2.2.2.2.1), cell_keep hb5 (hMm.2.2.2.2.2.2.2.2.2.2.2.1), cell_keep hb5 (hMm.2.2.2.2.2.2.2.2.2.2.2.2.1), cell_keep hb5 (hMm.2.2.2.2.2.2.2.2.2.2.2.2.2.1), cell_keep hb5 (hMm.2.2.2.2.2.2.2.2.2.2.2.2.2.2.1), cell_keep hb5 (hMm.2.2.2.2.2.2.2.2.2.2.2.2.2.2.2.1), cell_keep hb5 (hMm.2.2.2.2.2.2.2.2.2.2.2.2.2.2.2.2)⟩)
            refine hK.out _ _ ?_ (fun hHeld => ?_)
            · exact hS6
            clear hK K
            (try simp only [Act.put, List.setIfInBounds_toArray, List.set_cons_zero, List.set_cons_succ, List.getElem_toArray, List.getElem_cons_zero, List.getElem_cons_succ])
            refine wpAnyH_ready (rs := [7]) (by kernel_rfl) (by simp) ?_
            refine AllReadyH.cons rfl (fun K hK => ?_) ?_
            · rw [if_pos (by rfl)]
              refine wp_store_row _ _ _ rfl _ #[.int .i64 (finB C I v S).1, .int .i64 (finB C I v S).2.1, .int .i64 (finB C I v S).2.2] rfl rfl _ _ A3.out infoVdI rfl (by simp [Value.oneCell']) ?_
              refine hK.out _ _ ?_ (fun hHeld => ?_)
              · exact ⟨mcell_srow hHeld.1 (by omega), mcell_srow hHeld.2.1 (by omega), mcell_srow hHeld.2.2.1 (by omega), mcell_srow hHeld.2.2.2.1 (by omega), mcell_srow hHeld.2.2.2.2.1 (by omega), mcell_srow hHeld.2.2.2.2.2.1 (by omega), mcell_srow hHeld.2.2.2.2.2.2.1 (by omega), mcell_srow hHeld.2.2.2.2.2.2.2.1 (by omega), mcell_srow hHeld.2.2.2.2.2.2.2.2.1 (by omega), mcell_srow hHeld.2.2.2.2.2.2.2.2.2.1 (by omega), mcell_srow hHeld.2.2.2.2.2.2.2.2.2.2.1 (by omega), mcell_srow hHeld.2.2.2.2.2.2.2.2.2.2.2.1 (by omega), mcell_srow hHeld.2.2.2.2.2.2.2.2.2.2.2.2.1 (by omega), mcell_srow hHeld.2.2.2.2.2.2.2.2.2.2.2.2.2.1 (by omega), mcell_srow hHeld.2.2.2.2.2.2.2.2.2.2.2.2.2.2.1 (by omega), mcell_srow hHeld.2.2.2.2.2.2.2.2.2.2.2.2.2.2.2.1 (by omega), mcell_srow hHeld.2.2.2.2.2.2.2.2.2.2.2.2.2.2.2.2 (by omega)⟩
              clear hK K
              (try simp only [Act.put, List.setIfInBounds_toArray, List.set_cons_zero, List.set_cons_succ, List.getElem_toArray, List.getElem_cons_zero, List.getElem_cons_succ])
              refine wpAnyH_done (by kernel_rfl) ?_ _
              go_wp2
              refine bodyPost_ret (results_cell_row Tryz.results25 _ _ _ _ _ _ _ (by simp [Act.put]) (row_self A3.out _) Tryz.underlying59 rfl infoVdI) rfl ?_
              exact ⟨rfl, row_below HB.out (by omega) _⟩
            exact AllReadyH.nil
          exact AllReadyH.nil
        exact AllReadyH.nil
      exact AllReadyH.nil
end Go.Proofs.YtgooegcmgejfpaaGreatDoor.Mac
