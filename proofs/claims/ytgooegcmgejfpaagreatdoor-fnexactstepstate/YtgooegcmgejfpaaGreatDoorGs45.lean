import Derived.Test.YtgooegcmgejfpaaGreatDoorGs41
import Derived.Test.YtgooegcmgejfpaaGreatDoorGs44
import Derived.Deep.DrawnRows
namespace Go.Proofs.YtgooegcmgejfpaaGreatDoor.Mac
open Go Go.RowKit Go.Proofs.YtgooegcmgejfpaaGreatDoor.Mem Go.Proofs.YtgooegcmgejfpaaGreatDoor.Travel
open Go.Proofs.YtgooegcmgejfpaaGreatDoor.StV (okSt deadB failB runB validStI deadI stopB stopI)
open Go.Proofs.YtgooegcmgejfpaaGreatDoor.Valid (validB nodes)
set_option linter.unusedVariables false
set_option linter.unusedSimpArgs false
attribute [local go_sem ↓] Go.wp_at_zero Go.wp_at_succ

/-- A state as an answer that owns its memory. -/
def StOwn (w : World) (S : St) (e : Ending) (w' : World) : Prop :=
  ∃ (a1 a2 a3 : Option Addr) (c1 c2 c3 g1 g2 g3 : Nat), e = .returned (stV S a1 a2 a3 c1 c2 c3) ∧ Below w.heap.size w w' ∧ (w.heap.size ≤ g1 ∧ w.heap.size ≤ g2 ∧ w.heap.size ≤ g3 ∧ g1 ≠ g2 ∧ g1 ≠ g3 ∧ g2 ≠ g3) ∧
    ((S.n1 = 0 ∨ a1 = some ⟨g1, 0, none⟩) ∧ (S.n2 = 0 ∨ a2 = some ⟨g2, 0, none⟩) ∧ (S.n3 = 0 ∨ a3 = some ⟨g3, 0, none⟩)) ∧ Rw w' g1 (lst S.n1 S.L1) ∧ Rw w' g2 (lst S.n2 S.L2) ∧ Rw w' g3 (lst S.n3 S.L3)
theorem rw_none (w : World) (g : Nat) (L : Nat → Int) : Rw w g (lst 0 L) := fun i hi => by rw [lst_len] at hi; omega
theorem stOwn_bare {w w' : World} {p r : Int} (h : Below w.heap.size w w') : StOwn w (bareS p r) (.returned (.agg #[.int .i64 p, .int .i64 r, .int .i64 0, .int .i64 0, .int .i64 0, .int .i64 0, .slice none 0 0, .slice none 0 0, .slice none 0 0])) w' :=
  ⟨none, none, none, 0, 0, 0, w.heap.size, w.heap.size + 1, w.heap.size + 2, rfl, h, ⟨by omega, by omega, by omega, by omega, by omega, by omega⟩, ⟨Or.inl rfl, Or.inl rfl, Or.inl rfl⟩, rw_none _ _ _, rw_none _ _ _, rw_none _ _ _⟩
theorem deadI' (w : World) : Calls Tryz.prog 50 #[] w fun e w' => e = .returned (.agg #[.int .i64 (-1), .int .i64 (-1), .int .i64 0, .int .i64 0, .int .i64 0, .int .i64 0, .slice none 0 0, .slice none 0 0, .slice none 0 0]) ∧ Below w.heap.size w w' := by
  go_enter Tryz.func50, Tryz.ntmps50
  go_wp2
  go_returns
  exact ⟨rfl, by go_grown⟩
theorem lst_getD {l : List Int} {n : Nat} (h : l.length = n) : lst n (fun i => l.getD i 0) = l := by
  refine List.ext_getElem (by rw [lst_len, h]) fun i h1 h2 => ?_
  simp [lst, h2]
theorem dead_r {C : Co} {I : In} {v : Int} {S : St} (h : okSt C I v S = true) (hp : S.p = -1) : S.r = -1 := by
  have hd := (dead_p h).2 hp
  simp [deadB] at hd
  exact hd.1.2
set_option maxHeartbeats 8000000 in
set_option maxRecDepth 100000 in
theorem stepTopI (a1 a2 a3 b1 b2 b3 s1 s2 s3 : Option Addr) (c1 c2 c3 d1 d2 d3 t1 t2 t3 : Nat) (C : Co) (I : In) (v : Int) (S : St) (n : Int) (w : World) (hC : CoAt w a1 a2 a3 C) (hI : InAt w b1 b2 b3 I) (hS : StAt w s1 s2 s3 S) (k1 : C.n1 ≤ 1048576) (k2 : C.n2 ≤ 1048576) (k3 : C.n3 ≤ 1048576) (h1 : I.nV ≤ 1048576) (h2 : I.nQ ≤ 1048576) (h3 : I.nR ≤ 1048576) (j1 : S.n1 ≤ 1048576) (j2 : S.n2 ≤ 1048576) (j3 : S.n3 ≤ 1048576) (hT : ValC.TabC w) :
    Calls Tryz.prog 23 #[.agg #[.int .i64 C.R, .int .i64 C.S, .slice a1 C.n1 c1, .slice a2 C.n2 c2, .slice a3 C.n3 c3], .agg #[.slice b1 I.nV d1, .slice b2 I.nQ d2, .slice b3 I.nR d3], .int .i64 v, .agg #[.int .i64 S.p, .int .i64 S.r, .int .i64 S.d, .int .i64 S.t, .int .i64 S.s, .int .i64 S.l, .slice s1 S.n1 t1, .slice s2 S.n2 t2, .slice s3 S.n3 t3], .int .i64 n] w (StOwn w (stepB C I v S n)) := by
  have HC := Hid.mk hC
  have HI := Hid.mk hI
  have HS := Hid.mk hS
  have HT := Hid.mk hT
  clear hC hI hS hT
  go_enter Tryz.func23, Tryz.ntmps23
  go_wp2_with fail
  refine (validStI a1 a2 a3 b1 b2 b3 s1 s2 s3 c1 c2 c3 d1 d2 d3 t1 t2 t3 C I v S _ (HC.out.below (by go_grown)) (HI.out.below (by go_grown)) (HS.out.below (by go_grown)) (by omega) (by omega) (by omega) (by omega) (by omega) (by omega) (by omega) (by omega) (by omega) (HT.out.below (by go_grown))).mono ?_
  rintro e w1 ⟨rfl, hb⟩
  have HB := Hid.mk (below_then (w := w) (by go_grown) hb)
  have A0 := Hid.mk (blk_below (blk_alloc (blk_alloc (blk_alloc (blk_new w _) _) _) _) hb)
  have A1 := Hid.mk (blk_below (blk_alloc (blk_alloc (blk_new1 w _ _) _) _) hb)
  have A2 := Hid.mk (blk_below (blk_alloc (blk_new2 w _ _ _) _) hb)
  have A3 := Hid.mk (blk_below (iblk_new3 w _ _ _ _) hb)
  clear hb
  cases hok : okSt C I v S with
  | false =>
    have HF : Hid (stepB C I v S n = bareS (-1) (-1)) := by unfold Hid stepB; rw [if_pos (Or.inl hok)]
    go_wp2_with fail
    refine (deadI' _).mono ?_
    rename_i hKK
    rintro e wz ⟨rfl, hbz⟩
    refine hKK _ _ ?_
    clear hKK
    have AZ := Hid.mk (blk_below A3.out hbz)
    have BZ := Hid.mk (below_then HB.out hbz)
    clear hbz
    refine wpList_store_row rfl _ _ _ rfl (w.heap.size + 1 + 1 + 1) #[.int .i64 (-1), .int .i64 (-1), .int .i64 0, .int .i64 0, .int .i64 0, .int .i64 0, .slice none 0 0, .slice none 0 0, .slice none 0 0] rfl rfl _ _ AZ.out infoSt rfl (by simp [Value.oneCell']) ?_
    go_wp2
    refine bodyPost_ret (results_cell_row Tryz.results23 _ _ (w.heap.size + 1 + 1 + 1) _ _ _ _ (by simp [Act.put]) (row_self AZ.out _) Tryz.underlying34 rfl infoSt) rfl ?_
    rw [HF.out]
    exact stOwn_bare (row_below BZ.out (by omega) _)
  | true =>
    have hd := Hid.mk (dead_p hok)
    have HOK := Hid.mk hok
    clear hok
    have y0 := blk_cell A2.out 0
    have y1 := blk_cell A2.out 1
    have y2 := blk_cell A2.out 2
    have y3 := blk_cell A2.out 3
    have y4 := blk_cell A2.out 4
    have y5 := blk_cell A2.out 5
    have y6 := blk_cell A2.out 6
    have y7 := blk_cell A2.out 7
    have y8 := blk_cell A2.out 8
    simp only [List.getElem?_toArray, List.getElem?_cons_zero, List.getElem?_cons_succ] at y0 y1 y2 y3 y4 y5 y6 y7 y8
    go_wp2_with fail
    refine (deadI s1 s2 s3 t1 t2 t3 S _).mono ?_
    rintro e w1' ⟨rfl, hb⟩
    have HB := Hid.mk (below_then HB.out hb)
    have A0 := Hid.mk (blk_below A0.out hb)
    have A1 := Hid.mk (blk_below A1.out hb)
    have A2 := Hid.mk (blk_below A2.out hb)
    have A3 := Hid.mk (blk_below A3.out hb)
    clear hb y0 y1 y2 y3 y4 y5 y6 y7 y8
    have y0 := blk_cell A2.out 0
    have y1 := blk_cell A2.out 1
    simp only [List.getElem?_toArray, List.getElem?_cons_zero, List.getElem?_cons_succ] at y0 y1
    by_cases hbad : S.p = -1 ∨ 0 ≤ S.r
    · have HF : Hid (stepB C I v S n = bareS S.p S.r) := by
        unfold Hid stepB
        rcases hbad with hp | hr
        · rw [if_pos (Or.inr hp), hp, dead_r HOK.out hp]
        · by_cases hp : S.p = -1
          · rw [if_pos (Or.inr hp), hp, dead_r HOK.out hp]
          · rw [if_neg (by rw [HOK.out]; simp [hp]), if_pos hr]
      have hw : Hid (deadB S = true ∨ deadB S = false ∧ (S.r != -1) = true) := by
        unfold Hid
        cases hdd : deadB S with
        | true => exact Or.inl rfl
        | false =>
          refine Or.inr ⟨rfl, ?_⟩
          rcases hbad with hp | hr
          · rw [hd.out.2 hp] at hdd; cases hdd
          · simp; omega
      clear hbad
      rcases hw.out with e1 | ⟨e1, e2⟩
      · rw [e1]
        have v0 := blk_cell A3.out 0
        have v1 := blk_cell A3.out 1
        have v2 := blk_cell A3.out 2
        have v3 := blk_cell A3.out 3
        have v4 := blk_cell A3.out 4
        have v5 := blk_cell A3.out 5
        have v6 := blk_cell A3.out 6
        have v7 := blk_cell A3.out 7
        have v8 := blk_cell A3.out 8
        have u0 := blk_unfrozen A3.out 0
        have u1 := blk_unfrozen A3.out 1
        have u2 := blk_unfrozen A3.out 2
        have u3 := blk_unfrozen A3.out 3
        have u4 := blk_unfrozen A3.out 4
        have u5 := blk_unfrozen A3.out 5
        have u6 := blk_unfrozen A3.out 6
        have u7 := blk_unfrozen A3.out 7
        have u8 := blk_unfrozen A3.out 8
        simp only [List.getElem?_toArray, List.getElem?_cons_zero, List.getElem?_cons_succ] at v0 v1 v2 v3 v4 v5 v6 v7 v8
        go_wp2
        have AZ := (blk_set (blk_set (blk_set (blk_set (blk_set (blk_set (blk_set (blk_set (blk_set A3.out 0 (.int .i64 S.p)) 1 (.int .i64 S.r)) 2 (.int .i64 0)) 3 (.int .i64 0)) 4 (.int .i64 0)) 5 (.int .i64 0)) 6 (.slice none 0 0)) 7 (.slice none 0 0)) 8 (.slice none 0 0))
        simp only [List.setIfInBounds_toArray, List.set_cons_zero, List.set_cons_succ] at AZ
        refine bodyPost_ret (results_cell_row Tryz.results23 _ _ (w.heap.size + 1 + 1 + 1) _ _ _ _ (by simp [Act.put]) AZ Tryz.underlying34 rfl infoSt) rfl ?_
        rw [HF.out]
        exact stOwn_bare (((((((((HB.out.setCell (p := ⟨w.heap.size + 1 + 1 + 1, 0, none⟩) (by show w.heap.size ≤ w.heap.size + 1 + 1 + 1; omega) _).setCell (p := ⟨w.heap.size + 1 + 1 + 1, 1, none⟩) (by show w.heap.size ≤ w.heap.size + 1 + 1 + 1; omega) _).setCell (p := ⟨w.heap.size + 1 + 1 + 1, 2, none⟩) (by show w.heap.size ≤ w.heap.size + 1 + 1 + 1; omega) _).setCell (p := ⟨w.heap.size + 1 + 1 + 1, 3, none⟩) (by show w.heap.size ≤ w.heap.size + 1 + 1 + 1; omega) _).setCell (p := ⟨w.heap.size + 1 + 1 + 1, 4, none⟩) (by show w.heap.size ≤ w.heap.size + 1 + 1 + 1; omega) _).setCell (p := ⟨w.heap.size + 1 + 1 + 1, 5, none⟩) (by show w.heap.size ≤ w.heap.size + 1 + 1 + 1; omega) _).setCell (p := ⟨w.heap.size + 1 + 1 + 1, 6, none⟩) (by show w.heap.size ≤ w.heap.size + 1 + 1 + 1; omega) _).setCell (p := ⟨w.heap.size + 1 + 1 + 1, 7, none⟩) (by show w.heap.size ≤ w.heap.size + 1 + 1 + 1; omega) _).setCell (p := ⟨w.heap.size + 1 + 1 + 1, 8, none⟩) (by show w.heap.size ≤ w.heap.size + 1 + 1 + 1; omega) _)
      · rw [e1]
        have v0 := blk_cell A3.out 0
        have v1 := blk_cell A3.out 1
        have v2 := blk_cell A3.out 2
        have v3 := blk_cell A3.out 3
        have v4 := blk_cell A3.out 4
        have v5 := blk_cell A3.out 5
        have v6 := blk_cell A3.out 6
        have v7 := blk_cell A3.out 7
        have v8 := blk_cell A3.out 8
        have u0 := blk_unfrozen A3.out 0
        have u1 := blk_unfrozen A3.out 1
        have u2 := blk_unfrozen A3.out 2
        have u3 := blk_unfrozen A3.out 3
        have u4 := blk_unfrozen A3.out 4
        have u5 := blk_unfrozen A3.out 5
        have u6 := blk_unfrozen A3.out 6
        have u7 := blk_unfrozen A3.out 7
        have u8 := blk_unfrozen A3.out 8
        simp only [List.getElem?_toArray, List.getElem?_cons_zero, List.getElem?_cons_succ] at v0 v1 v2 v3 v4 v5 v6 v7 v8
        go_wp2
        have AZ := (blk_set (blk_set (blk_set (blk_set (blk_set (blk_set (blk_set (blk_set (blk_set A3.out 0 (.int .i64 S.p)) 1 (.int .i64 S.r)) 2 (.int .i64 0)) 3 (.int .i64 0)) 4 (.int .i64 0)) 5 (.int .i64 0)) 6 (.slice none 0 0)) 7 (.slice none 0 0)) 8 (.slice none 0 0))
        simp only [List.setIfInBounds_toArray, List.set_cons_zero, List.set_cons_succ] at AZ
        refine bodyPost_ret (results_cell_row Tryz.results23 _ _ (w.heap.size + 1 + 1 + 1) _ _ _ _ (by simp [Act.put]) AZ Tryz.underlying34 rfl infoSt) rfl ?_
        rw [HF.out]
        exact stOwn_bare (((((((((HB.out.setCell (p := ⟨w.heap.size + 1 + 1 + 1, 0, none⟩) (by show w.heap.size ≤ w.heap.size + 1 + 1 + 1; omega) _).setCell (p := ⟨w.heap.size + 1 + 1 + 1, 1, none⟩) (by show w.heap.size ≤ w.heap.size + 1 + 1 + 1; omega) _).setCell (p := ⟨w.heap.size + 1 + 1 + 1, 2, none⟩) (by show w.heap.size ≤ w.heap.size + 1 + 1 + 1; omega) _).setCell (p := ⟨w.heap.size + 1 + 1 + 1, 3, none⟩) (by show w.heap.size ≤ w.heap.size + 1 + 1 + 1; omega) _).setCell (p := ⟨w.heap.size + 1 + 1 + 1, 4, none⟩) (by show w.heap.size ≤ w.heap.size + 1 + 1 + 1; omega) _).setCell (p := ⟨w.heap.size + 1 + 1 + 1, 5, none⟩) (by show w.heap.size ≤ w.heap.size + 1 + 1 + 1; omega) _).setCell (p := ⟨w.heap.size + 1 + 1 + 1, 6, none⟩) (by show w.heap.size ≤ w.heap.size + 1 + 1 + 1; omega) _).setCell (p := ⟨w.heap.size + 1 + 1 + 1, 7, none⟩) (by show w.heap.size ≤ w.heap.size + 1 + 1 + 1; omega) _).setCell (p := ⟨w.heap.size + 1 + 1 + 1, 8, none⟩) (by show w.heap.size ≤ w.heap.size + 1 + 1 + 1; omega) _)
    have hp : S.p ≠ -1 := fun h => hbad (Or.inl h)
    have hr : ¬ 0 ≤ S.r := fun h => hbad (Or.inr h)
    obtain ⟨hv0, R⟩ := run_ok HOK.out hp hr
    obtain ⟨u, rfl⟩ : ∃ u : Nat, v = (u : Int) := ⟨v.toNat, by omega⟩
    rw [Int.toNat_natCast] at R
    have R := Hid.mk R
    have hdf : deadB S = false := by
      cases hdd : deadB S with
      | false => rfl
      | true => exact absurd (hd.out.1 hdd) hp
    have hr1 : (S.r != -1) = false := by rw [R.out.r]; rfl
    rw [hdf]
    have n1 := Hid.mk (show ¬ (okSt C I (u : Int) S = false ∨ S.p = -1) by rw [HOK.out]; simp [hp])
    have n2 := Hid.mk hr
    obtain ⟨q1, q2, q3⟩ := lens_bd (validB_parts R.out.val).1
    have h13 : Hid (13 ≤ S.n2) := by unfold Hid; have a1 := R.out.l2; have a2 := (StV.co_bd R.out.co).1; omega
    clear hp hr hbad
    by_cases h4 : S.p = 4096
    · have HF : Hid (stepB C I (u : Int) S n = bareS (-1) (-1)) := by unfold Hid stepB; rw [if_neg n1.out, if_neg (by have := n2.out; omega), if_pos (Or.inl h4)]
      have e3 : (S.p == 4096) = true := by simp [h4]
      clear h4
      go_wp2_with fail
      refine (deadI' _).mono ?_
      rename_i hKK
      rintro e wz ⟨rfl, hbz⟩
      refine hKK _ _ ?_
      clear hKK
      have AZ := Hid.mk (blk_below A3.out hbz)
      have BZ := Hid.mk (below_then HB.out hbz)
      clear hbz
      refine wpList_store_row rfl _ _ _ rfl (w.heap.size + 1 + 1 + 1) #[.int .i64 (-1), .int .i64 (-1), .int .i64 0, .int .i64 0, .int .i64 0, .int .i64 0, .slice none 0 0, .slice none 0 0, .slice none 0 0] rfl rfl _ _ AZ.out infoSt rfl (by simp [Value.oneCell']) ?_
      go_wp2
      refine bodyPost_ret (results_cell_row Tryz.results23 _ _ (w.heap.size + 1 + 1 + 1) _ _ _ _ (by simp [Act.put]) (row_self AZ.out _) Tryz.underlying34 rfl infoSt) rfl ?_
      rw [HF.out]
      exact stOwn_bare (row_below BZ.out (by omega) _)
    have e3 : (S.p == 4096) = false := by simp [h4]
    have H4 := Hid.mk h4
    clear h4
    have x0 := blk_cell A1.out 0
    have x1 := blk_cell A1.out 1
    have x2 := blk_cell A1.out 2
    simp only [List.getElem?_toArray, List.getElem?_cons_zero, List.getElem?_cons_succ] at x0 x1 x2
    go_wp2_with fail
    refine (stopI b1 b2 b3 d1 d2 d3 I n _ (by omega) (by omega)).mono ?_
    rintro e w2 ⟨rfl, hb⟩
    have HB := Hid.mk (below_then HB.out hb)
    have A0 := Hid.mk (blk_below A0.out hb)
    have A1 := Hid.mk (blk_below A1.out hb)
    have A2 := Hid.mk (blk_below A2.out hb)
    have A3 := Hid.mk (blk_below A3.out hb)
    clear hb x0 x1 x2 y0 y1
    cases hst : stopB I n with
    | false =>
      have HF : Hid (stepB C I (u : Int) S n = bareS (-1) (-1)) := by unfold Hid stepB; rw [if_neg n1.out, if_neg (by have := n2.out; omega), if_pos (Or.inr hst)]
      go_wp2_with fail
      refine (deadI' _).mono ?_
      rename_i hKK
      rintro e wz ⟨rfl, hbz⟩
      refine hKK _ _ ?_
      clear hKK
      have AZ := Hid.mk (blk_below A3.out hbz)
      have BZ := Hid.mk (below_then HB.out hbz)
      clear hbz
      refine wpList_store_row rfl _ _ _ rfl (w.heap.size + 1 + 1 + 1) #[.int .i64 (-1), .int .i64 (-1), .int .i64 0, .int .i64 0, .int .i64 0, .int .i64 0, .slice none 0 0, .slice none 0 0, .slice none 0 0] rfl rfl _ _ AZ.out infoSt rfl (by simp [Value.oneCell']) ?_
      go_wp2
      refine bodyPost_ret (results_cell_row Tryz.results23 _ _ (w.heap.size + 1 + 1 + 1) _ _ _ _ (by simp [Act.put]) (row_self AZ.out _) Tryz.underlying34 rfl infoSt) rfl ?_
      rw [HF.out]
      exact stOwn_bare (row_below BZ.out (by omega) _)
    | true =>
      have n3 := Hid.mk (show ¬ (S.p = 4096 ∨ stopB I n = false) by rw [hst]; have := H4.out; simp [this])
      have HST := Hid.mk hst
      clear hst
      go_upto_region 7 with fail
      have HSS := Hid.mk (show w2.cell? ⟨w.heap.size, 0, none⟩ = some (.int .i64 C.R) ∧ w2.cell? ⟨w.heap.size, 1, none⟩ = some (.int .i64 C.S) ∧ w2.cell? ⟨w.heap.size, 2, none⟩ = some (.slice a1 C.n1 c1) ∧ w2.cell? ⟨w.heap.size, 3, none⟩ = some (.slice a2 C.n2 c2) ∧ w2.cell? ⟨w.heap.size, 4, none⟩ = some (.slice a3 C.n3 c3) ∧ w2.cell? ⟨w.heap.size + 1, 0, none⟩ = some (.slice b1 I.nV d1) ∧ w2.cell? ⟨w.heap.size + 1, 1, none⟩ = some (.slice b2 I.nQ d2) ∧ w2.cell? ⟨w.heap.size + 1, 2, none⟩ = some (.slice b3 I.nR d3) ∧ w2.cell? ⟨w.heap.size + 1 + 1, 0, none⟩ = some (.int .i64 S.p) ∧ w2.cell? ⟨w.heap.size + 1 + 1, 1, none⟩ = some (.int .i64 S.r) ∧ w2.cell? ⟨w.heap.size + 1 + 1, 2, none⟩ = some (.int .i64 S.d) ∧ w2.cell? ⟨w.heap.size + 1 + 1, 3, none⟩ = some (.int .i64 S.t) ∧ w2.cell? ⟨w.heap.size + 1 + 1, 4, none⟩ = some (.int .i64 S.s) ∧ w2.cell? ⟨w.heap.size + 1 + 1, 5, none⟩ = some (.int .i64 S.l) ∧ w2.cell? ⟨w.heap.size + 1 + 1, 6, none⟩ = some (.slice s1 S.n1 t1) ∧ w2.cell? ⟨w.heap.size + 1 + 1, 7, none⟩ = some (.slice s2 S.n2 t2) ∧ w2.cell? ⟨w.heap.size + 1 + 1, 8, none⟩ = some (.slice s3 S.n3 t3) from ⟨by simpa using blk_cell A0.out 0, by simpa using blk_cell A0.out 1, by simpa using blk_cell A0.out 2, by simpa using blk_cell A0.out 3, by simpa using blk_cell A0.out 4, by simpa using blk_cell A1.out 0, by simpa using blk_cell A1.out 1, by simpa using blk_cell A1.out 2, by simpa using blk_cell A2.out 0, by simpa using blk_cell A2.out 1, by simpa using blk_cell A2.out 2, by simpa using blk_cell A2.out 3, by simpa using blk_cell A2.out 4, by simpa using blk_cell A2.out 5, by simpa using blk_cell A2.out 6, by simpa using blk_cell A2.out 7, by simpa using blk_cell A2.out 8⟩)
      have HB := Hid.mk HB.out.drew
      have A3 := Hid.mk (mblk_drew A3.out)
      refine wp_region_held_drew (S := (fun w' => w'.cell? ⟨w.heap.size, 0, none⟩ = some (.int .i64 C.R) ∧ w'.cell? ⟨w.heap.size, 1, none⟩ = some (.int .i64 C.S) ∧ w'.cell? ⟨w.heap.size, 2, none⟩ = some (.slice a1 C.n1 c1) ∧ w'.cell? ⟨w.heap.size, 3, none⟩ = some (.slice a2 C.n2 c2) ∧ w'.cell? ⟨w.heap.size, 4, none⟩ = some (.slice a3 C.n3 c3) ∧ w'.cell? ⟨w.heap.size + 1, 0, none⟩ = some (.slice b1 I.nV d1) ∧ w'.cell? ⟨w.heap.size + 1, 1, none⟩ = some (.slice b2 I.nQ d2) ∧ w'.cell? ⟨w.heap.size + 1, 2, none⟩ = some (.slice b3 I.nR d3) ∧ w'.cell? ⟨w.heap.size + 1 + 1, 0, none⟩ = some (.int .i64 S.p) ∧ w'.cell? ⟨w.heap.size + 1 + 1, 1, none⟩ = some (.int .i64 S.r) ∧ w'.cell? ⟨w.heap.size + 1 + 1, 2, none⟩ = some (.int .i64 S.d) ∧ w'.cell? ⟨w.heap.size + 1 + 1, 3, none⟩ = some (.int .i64 S.t) ∧ w'.cell? ⟨w.heap.size + 1 + 1, 4, none⟩ = some (.int .i64 S.s) ∧ w'.cell? ⟨w.heap.size + 1 + 1, 5, none⟩ = some (.int .i64 S.l) ∧ w'.cell? ⟨w.heap.size + 1 + 1, 6, none⟩ = some (.slice s1 S.n1 t1) ∧ w'.cell? ⟨w.heap.size + 1 + 1, 7, none⟩ = some (.slice s2 S.n2 t2) ∧ w'.cell? ⟨w.heap.size + 1 + 1, 8, none⟩ = some (.slice s3 S.n3 t3))) (by kernel_rfl) ?_ (fun hHeld => ?_)
      · exact HSS.out
      refine wpAnyH_take (i := 0) (v := ?_) rfl (by kernel_rfl) (by kernel_rfl) (by kernel_rfl) (fun _ _ _ h => h) (Or.inl ⟨by rfl, ?_⟩) (by assumption) ?_
      rotate_left
      · intro w hSw; (try dsimp only at hSw); go_simp; (try with_reducible rfl)
      rotate_left
      simp only [Act.put, List.setIfInBounds_toArray, List.set_cons_zero, List.set_cons_succ, List.getElem_toArray, List.getElem_cons_zero, List.getElem_cons_succ]
      refine wpAnyH_take (i := 1) (v := ?_) rfl (by kernel_rfl) (by kernel_rfl) (by kernel_rfl) (fun _ _ _ h => h) (Or.inl ⟨by rfl, ?_⟩) (by assumption) ?_
      rotate_left
      · intro w hSw; (try dsimp only at hSw); go_simp; (try with_reducible rfl)
      rotate_left
      simp only [Act.put, List.setIfInBounds_toArray, List.set_cons_zero, List.set_cons_succ, List.getElem_toArray, List.getElem_cons_zero, List.getElem_cons_succ]
      refine wpAnyH_take (i := 2) (v := ?_) rfl (by kernel_rfl) (by kernel_rfl) (by kernel_rfl) (fun _ _ _ h => h) (Or.inl ⟨by rfl, ?_⟩) (by assumption) ?_
      rotate_left
      · intro w hSw; (try dsimp only at hSw); go_simp; (try with_reducible rfl)
      rotate_left
      simp only [Act.put, List.setIfInBounds_toArray, List.set_cons_zero, List.set_cons_succ, List.getElem_toArray, List.getElem_cons_zero, List.getElem_cons_succ]
      refine wpAnyH_take (i := 4) (v := ?_) rfl (by kernel_rfl) (by kernel_rfl) (by kernel_rfl) (fun _ _ _ h => h) (Or.inl ⟨by rfl, ?_⟩) (by assumption) ?_
      rotate_left
      · intro w hSw; (try dsimp only at hSw); go_simp; (try with_reducible rfl)
      rotate_left
      simp only [Act.put, List.setIfInBounds_toArray, List.set_cons_zero, List.set_cons_succ, List.getElem_toArray, List.getElem_cons_zero, List.getElem_cons_succ]
      refine wpAnyH_ready (rs := [3]) (by kernel_rfl) (by simp) ?_
      refine AllReadyH.cons rfl (fun K hK => ?_) ?_
      · go_simp
        refine (machineI a1 a2 a3 b1 b2 b3 c1 c2 c3 d1 d2 d3 C I (u : Int) _).mono ?_
        rintro e w3 ⟨mp, M, rfl, ea1, ea2, ea3, eb1, eb2, eb3, -, -, -, -, -, -, eC, eI, ev, hb, hM, hBx, -⟩
        have HB := Hid.mk (below_then HB.out hb)
        have A3 := Hid.mk (blk_below A3.out hb)
        have MA : Hid (Mach w3 M mp C I (u : Int)) := Hid.mk ⟨hM, ⟨_, hBx⟩, by rw [ea1, ea2, ea3]; exact HC.out.below HB.out, by rw [eb1, eb2, eb3]; exact HI.out.below HB.out, eC, eI, ev⟩
        refine hK.out _ _ ?_ (fun hHeld => ?_)
        · exact ⟨cell_keep hb hHeld.1, cell_keep hb hHeld.2.1, cell_keep hb hHeld.2.2.1, cell_keep hb hHeld.2.2.2.1, cell_keep hb hHeld.2.2.2.2.1, cell_keep hb hHeld.2.2.2.2.2.1, cell_keep hb hHeld.2.2.2.2.2.2.1, cell_keep hb hHeld.2.2.2.2.2.2.2.1, cell_keep hb hHeld.2.2.2.2.2.2.2.2.1, cell_keep hb hHeld.2.2.2.2.2.2.2.2.2.1, cell_keep hb hHeld.2.2.2.2.2.2.2.2.2.2.1, cell_keep hb hHeld.2.2.2.2.2.2.2.2.2.2.2.1, cell_keep hb hHeld.2.2.2.2.2.2.2.2.2.2.2.2.1, cell_keep hb hHeld.2.2.2.2.2.2.2.2.2.2.2.2.2.1, cell_keep hb hHeld.2.2.2.2.2.2.2.2.2.2.2.2.2.2.1, cell_keep hb hHeld.2.2.2.2.2.2.2.2.2.2.2.2.2.2.2.1, cell_keep hb hHeld.2.2.2.2.2.2.2.2.2.2.2.2.2.2.2.2⟩
        clear hK K
        (try simp only [Act.put, List.setIfInBounds_toArray, List.set_cons_zero, List.set_cons_succ, List.getElem_toArray, List.getElem_cons_zero, List.getElem_cons_succ])
        refine wpAnyH_ready (rs := [5]) (by kernel_rfl) (by simp) ?_
        refine AllReadyH.cons rfl (fun K hK => ?_) ?_
        · go_simp
          refine (goOnR s1 s2 s3 t1 t2 t3 M S _ (HS.out.below HB.out) j1 j2 j3).mono ?_
          rintro e w4 hg
          obtain ⟨F, f, rfl, gg⟩ := gone_goes hg h13.out
          have GG := Hid.mk gg
          have hb := gone_below hg
          refine hK.out _ _ ?_ (fun hHeld => ?_)
          · exact ⟨cell_keep hb hHeld.1, cell_keep hb hHeld.2.1, cell_keep hb hHeld.2.2.1, cell_keep hb hHeld.2.2.2.1, cell_keep hb hHeld.2.2.2.2.1, cell_keep hb hHeld.2.2.2.2.2.1, cell_keep hb hHeld.2.2.2.2.2.2.1, cell_keep hb hHeld.2.2.2.2.2.2.2.1, cell_keep hb hHeld.2.2.2.2.2.2.2.2.1, cell_keep hb hHeld.2.2.2.2.2.2.2.2.2.1, cell_keep hb hHeld.2.2.2.2.2.2.2.2.2.2.1, cell_keep hb hHeld.2.2.2.2.2.2.2.2.2.2.2.1, cell_keep hb hHeld.2.2.2.2.2.2.2.2.2.2.2.2.1, cell_keep hb hHeld.2.2.2.2.2.2.2.2.2.2.2.2.2.1, cell_keep hb hHeld.2.2.2.2.2.2.2.2.2.2.2.2.2.2.1, cell_keep hb hHeld.2.2.2.2.2.2.2.2.2.2.2.2.2.2.2.1, cell_keep hb hHeld.2.2.2.2.2.2.2.2.2.2.2.2.2.2.2.2⟩
          clear hK K
          (try simp only [Act.put, List.setIfInBounds_toArray, List.set_cons_zero, List.set_cons_succ, List.getElem_toArray, List.getElem_cons_zero, List.getElem_cons_succ])
          refine wpAnyH_ready (rs := [6]) (by kernel_rfl) (by simp) ?_
          refine AllReadyH.cons rfl (fun K hK => ?_) ?_
          · go_simp
            refine hK.out _ _ ?_ (fun hHeld => ?_)
            · exact hHeld
            clear hK K
            (try simp only [Act.put, List.setIfInBounds_toArray, List.set_cons_zero, List.set_cons_succ, List.getElem_toArray, List.getElem_cons_zero, List.getElem_cons_succ])
            refine wpAnyH_done (by kernel_rfl) ?_ _
            have X := Hid.mk (goes_frx GG.out MA.out R.out)
            go_wp2_with fail
            refine (stepI w3 w4 F f _ _ _ mp u n X.out (by rw [GG.out.p]; exact R.out.p1) (by rw [MA.out.I]; exact HST.out)).mono ?_
            rintro e w5 ⟨⟨vv, rfl⟩, hb5, hc⟩
            have B5 := Hid.mk (below_then HB.out hb5)
            have A5 := Hid.mk (blk_below A3.out hb5)
            clear hb5
            have eI := MA.out.I
            have eC := MA.out.C
            subst eI
            subst eC
            have hN : nextL mp.I u (stF f) n = nextL mp.I u S n := nextL_congr GG.out.p GG.out.d GG.out.t GG.out.s GG.out.l
            have hO : exec (enAt mp.I u n) mp.C.B2 mp.C.n2 mp.C.n2 0 (over (lst S.n2 S.L2) (nextL mp.I u (stF f) n)) (lst S.n3 S.L3) = stepOut mp.C mp.I u S n := by
              unfold stepOut; rw [over_next, hN]
            obtain ⟨z1, z2, z3, z4⟩ := stop_bd HST.out
            have hq : (lst S.n1 S.L1).getD (qOf mp.I n) 0 = S.L1 (qOf mp.I n) := lst_get (by have := R.out.l1; unfold qOf; omega)
            rw [hO, hq] at hc
            have m1 := Hid.mk (show ¬ 0 ≤ S.r by have := n2.out; omega)
            clear hN hO hq z1 z2 z3 z4
            by_cases hw : S.L1 (qOf mp.I n) ≠ dueOf mp.I n
            · rw [if_pos hw] at hc
              obtain ⟨qq, nx, hF⟩ := hc
              have HF : Hid (stepB mp.C mp.I (u : Int) S n = bareS (S.p + 1) 0) := by unfold Hid stepB; rw [if_neg n1.out, if_neg m1.out, if_neg n3.out, if_pos hw]
              clear hw
              have HFF := Hid.mk hF
              have l0 := blk_cell HFF.out 0
              have l1 := blk_cell HFF.out 1
              have l2 := blk_cell HFF.out 2
              have l3 := blk_cell HFF.out 3
              have l4 := blk_cell HFF.out 4
              have l5 := blk_cell HFF.out 5
              have l6 := blk_cell HFF.out 6
              have l7 := blk_cell HFF.out 7
              have l8 := blk_cell HFF.out 8
              have v0 := blk_cell A5.out 0
              have v1 := blk_cell A5.out 1
              have v2 := blk_cell A5.out 2
              have v3 := blk_cell A5.out 3
              have v4 := blk_cell A5.out 4
              have v5 := blk_cell A5.out 5
              have v6 := blk_cell A5.out 6
              have v7 := blk_cell A5.out 7
              have v8 := blk_cell A5.out 8
              have u0 := blk_unfrozen A5.out 0
              have u1 := blk_unfrozen A5.out 1
              have u2 := blk_unfrozen A5.out 2
              have u3 := blk_unfrozen A5.out 3
              have u4 := blk_unfrozen A5.out 4
              have u5 := blk_unfrozen A5.out 5
              have u6 := blk_unfrozen A5.out 6
              have u7 := blk_unfrozen A5.out 7
              have u8 := blk_unfrozen A5.out 8
              simp only [frC, failC, List.getElem?_toArray, List.getElem?_cons_zero, List.getElem?_cons_succ] at l0 v0 l1 v1 l2 v2 l3 v3 l4 v4 l5 v5 l6 v6 l7 v7 l8 v8
              go_wp2
              have AZ := (blk_set (blk_set (blk_set (blk_set (blk_set (blk_set (blk_set (blk_set (blk_set A5.out 0 (.int .i64 (f.p + 1))) 1 (.int .i64 0)) 2 (.int .i64 0)) 3 (.int .i64 0)) 4 (.int .i64 0)) 5 (.int .i64 0)) 6 (.slice none 0 0)) 7 (.slice none 0 0)) 8 (.slice none 0 0))
              simp only [List.setIfInBounds_toArray, List.set_cons_zero, List.set_cons_succ] at AZ
              refine bodyPost_ret (results_cell_row Tryz.results23 _ _ (w.heap.size + 1 + 1 + 1) _ _ _ _ (by simp [Act.put]) AZ Tryz.underlying34 rfl infoSt) rfl ?_
              rw [HF.out]
              rw [GG.out.p]
              exact stOwn_bare (((((((((B5.out.setCell (p := ⟨w.heap.size + 1 + 1 + 1, 0, none⟩) (by show w.heap.size ≤ w.heap.size + 1 + 1 + 1; omega) _).setCell (p := ⟨w.heap.size + 1 + 1 + 1, 1, none⟩) (by show w.heap.size ≤ w.heap.size + 1 + 1 + 1; omega) _).setCell (p := ⟨w.heap.size + 1 + 1 + 1, 2, none⟩) (by show w.heap.size ≤ w.heap.size + 1 + 1 + 1; omega) _).setCell (p := ⟨w.heap.size + 1 + 1 + 1, 3, none⟩) (by show w.heap.size ≤ w.heap.size + 1 + 1 + 1; omega) _).setCell (p := ⟨w.heap.size + 1 + 1 + 1, 4, none⟩) (by show w.heap.size ≤ w.heap.size + 1 + 1 + 1; omega) _).setCell (p := ⟨w.heap.size + 1 + 1 + 1, 5, none⟩) (by show w.heap.size ≤ w.heap.size + 1 + 1 + 1; omega) _).setCell (p := ⟨w.heap.size + 1 + 1 + 1, 6, none⟩) (by show w.heap.size ≤ w.heap.size + 1 + 1 + 1; omega) _).setCell (p := ⟨w.heap.size + 1 + 1 + 1, 7, none⟩) (by show w.heap.size ≤ w.heap.size + 1 + 1 + 1; omega) _).setCell (p := ⟨w.heap.size + 1 + 1 + 1, 8, none⟩) (by show w.heap.size ≤ w.heap.size + 1 + 1 + 1; omega) _)
            · rw [if_neg hw] at hc
              have n4 := Hid.mk hw
              clear hw
              rcases hc with ⟨hu, qq, nx, hx⟩ | ⟨hu, qq, nx, hF⟩
              · have HF : Hid (stepB mp.C mp.I (u : Int) S n = goneS mp.C mp.I u S n) := by unfold Hid stepB; rw [if_neg n1.out, if_neg m1.out, if_neg n3.out, if_neg n4.out, Int.toNat_natCast, if_neg (by omega)]
                clear hu
                have HFF := Hid.mk hx.fra.ok.hF
                have HX := Hid.mk hx
                clear hx
                have l0 := blk_cell HFF.out 0
                have l1 := blk_cell HFF.out 1
                have l2 := blk_cell HFF.out 2
                have l3 := blk_cell HFF.out 3
                have l4 := blk_cell HFF.out 4
                have l5 := blk_cell HFF.out 5
                have l6 := blk_cell HFF.out 6
                have l7 := blk_cell HFF.out 7
                have l8 := blk_cell HFF.out 8
                have v0 := blk_cell A5.out 0
                have v1 := blk_cell A5.out 1
                have v2 := blk_cell A5.out 2
                have v3 := blk_cell A5.out 3
                have v4 := blk_cell A5.out 4
                have v5 := blk_cell A5.out 5
                have v6 := blk_cell A5.out 6
                have v7 := blk_cell A5.out 7
                have v8 := blk_cell A5.out 8
                have u0 := blk_unfrozen A5.out 0
                have u1 := blk_unfrozen A5.out 1
                have u2 := blk_unfrozen A5.out 2
                have u3 := blk_unfrozen A5.out 3
                have u4 := blk_unfrozen A5.out 4
                have u5 := blk_unfrozen A5.out 5
                have u6 := blk_unfrozen A5.out 6
                have u7 := blk_unfrozen A5.out 7
                have u8 := blk_unfrozen A5.out 8
                simp only [frC, failC, List.getElem?_toArray, List.getElem?_cons_zero, List.getElem?_cons_succ] at l0 v0 l1 v1 l2 v2 l3 v3 l4 v4 l5 v5 l6 v6 l7 v7 l8 v8
                go_wp2
                have AZ := (blk_set (blk_set (blk_set (blk_set (blk_set (blk_set (blk_set (blk_set (blk_set A5.out 0 (.int .i64 (f.p + 1))) 1 (.int .i64 (-1))) 2 (.int .i64 n)) 3 (.int .i64 (nxT mp.I f n))) 4 (.int .i64 (nxS mp.I f n))) 5 (.int .i64 (nxL mp.I f n))) 6 (.slice f.aT f.nT f.cT)) 7 (.slice (some ⟨f.gR, 0, none⟩) f.nr f.cR)) 8 (.slice f.aS f.ns f.cS))
                simp only [List.setIfInBounds_toArray, List.set_cons_zero, List.set_cons_succ] at AZ
                refine bodyPost_ret (results_cell_row Tryz.results23 _ _ (w.heap.size + 1 + 1 + 1) _ _ _ _ (by simp [Act.put]) AZ Tryz.underlying34 rfl infoSt) rfl ?_
                rw [HF.out]
                have hA3 := blk_lt A3.out
                have hW := HB.out.size
                have rwk : ∀ (g : Nat) (l : List Int), w3.heap.size ≤ g → Rw w5 g l → Rw _ g l := fun g l hg hr => (((((((((hr.other (p := ⟨w.heap.size + 1 + 1 + 1, 0, none⟩) (by show w.heap.size + 1 + 1 + 1 ≠ g; omega) (.int .i64 (f.p + 1))).other (p := ⟨w.heap.size + 1 + 1 + 1, 1, none⟩) (by show w.heap.size + 1 + 1 + 1 ≠ g; omega) (.int .i64 (-1))).other (p := ⟨w.heap.size + 1 + 1 + 1, 2, none⟩) (by show w.heap.size + 1 + 1 + 1 ≠ g; omega) (.int .i64 n)).other (p := ⟨w.heap.size + 1 + 1 + 1, 3, none⟩) (by show w.heap.size + 1 + 1 + 1 ≠ g; omega) (.int .i64 (nxT mp.I f n))).other (p := ⟨w.heap.size + 1 + 1 + 1, 4, none⟩) (by show w.heap.size + 1 + 1 + 1 ≠ g; omega) (.int .i64 (nxS mp.I f n))).other (p := ⟨w.heap.size + 1 + 1 + 1, 5, none⟩) (by show w.heap.size + 1 + 1 + 1 ≠ g; omega) (.int .i64 (nxL mp.I f n))).other (p := ⟨w.heap.size + 1 + 1 + 1, 6, none⟩) (by show w.heap.size + 1 + 1 + 1 ≠ g; omega) (.slice f.aT f.nT f.cT)).other (p := ⟨w.heap.size + 1 + 1 + 1, 7, none⟩) (by show w.heap.size + 1 + 1 + 1 ≠ g; omega) (.slice (some ⟨f.gR, 0, none⟩) f.nr f.cR)).other (p := ⟨w.heap.size + 1 + 1 + 1, 8, none⟩) (by show w.heap.size + 1 + 1 + 1 ≠ g; omega) (.slice f.aS f.ns f.cS))
                have X0 := HX.out.fra
                have hlr : (stepOut mp.C mp.I u S n).1.length = S.n2 := by rw [← X0.ok.nr]; show f.nr = S.n2; rw [GG.out.ok.nr, lst_len]
                have hls : (stepOut mp.C mp.I u S n).2.1.length = S.n3 := by rw [← X0.ok.ns]; show f.ns = S.n3; rw [GG.out.ok.ns, lst_len]
                have hlt : ((lst S.n1 S.L1).set (qOf mp.I n) (dueOf mp.I n + 1)).length = S.n1 := by rw [List.length_set, lst_len]
                have eT : nxT mp.I f n = (nextL mp.I u S n).getD 0 0 := by unfold nxT; rw [GG.out.t, GG.out.d]; rfl
                have eS : nxS mp.I f n = (nextL mp.I u S n).getD 3 0 := by unfold nxS; rw [GG.out.s, GG.out.d]; rfl
                have eL : nxL mp.I f n = (nextL mp.I u S n).getD 4 0 := by unfold nxL; rw [GG.out.l]; rfl
                have eN : f.nr = S.n2 := by rw [GG.out.ok.nr, lst_len]
                have eM : f.ns = S.n3 := by rw [GG.out.ok.ns, lst_len]
                obtain ⟨gT, hgT, hrT, hne1, hne2, hlow⟩ : ∃ gT, (S.n1 = 0 ∨ f.aT = some ⟨gT, 0, none⟩) ∧ Rw w5 gT ((lst S.n1 S.L1).set (qOf mp.I n) (dueOf mp.I n + 1)) ∧ gT ≠ f.gR ∧ gT ≠ f.gS ∧ w3.heap.size ≤ gT := by
                  rcases X0.st with h0 | ⟨g, e1, e2, e3, e4, e5, e6⟩
                  · rw [hlt] at h0
                    exact ⟨F, Or.inl h0, fun i hi => by rw [hlt] at hi; omega, X0.ok.fr, X0.ok.fs, X0.bF⟩
                  · exact ⟨g, Or.inr e1, e6, e4, e5, e2⟩
                have bR := X0.bR
                have bS := X0.bS
                refine ⟨f.aT, some ⟨f.gR, 0, none⟩, f.aS, f.cT, f.cR, f.cS, gT, f.gR, f.gS, ?_, (((((((((B5.out.setCell (p := ⟨w.heap.size + 1 + 1 + 1, 0, none⟩) (by show w.heap.size ≤ w.heap.size + 1 + 1 + 1; omega) _).setCell (p := ⟨w.heap.size + 1 + 1 + 1, 1, none⟩) (by show w.heap.size ≤ w.heap.size + 1 + 1 + 1; omega) _).setCell (p := ⟨w.heap.size + 1 + 1 + 1, 2, none⟩) (by show w.heap.size ≤ w.heap.size + 1 + 1 + 1; omega) _).setCell (p := ⟨w.heap.size + 1 + 1 + 1, 3, none⟩) (by show w.heap.size ≤ w.heap.size + 1 + 1 + 1; omega) _).setCell (p := ⟨w.heap.size + 1 + 1 + 1, 4, none⟩) (by show w.heap.size ≤ w.heap.size + 1 + 1 + 1; omega) _).setCell (p := ⟨w.heap.size + 1 + 1 + 1, 5, none⟩) (by show w.heap.size ≤ w.heap.size + 1 + 1 + 1; omega) _).setCell (p := ⟨w.heap.size + 1 + 1 + 1, 6, none⟩) (by show w.heap.size ≤ w.heap.size + 1 + 1 + 1; omega) _).setCell (p := ⟨w.heap.size + 1 + 1 + 1, 7, none⟩) (by show w.heap.size ≤ w.heap.size + 1 + 1 + 1; omega) _).setCell (p := ⟨w.heap.size + 1 + 1 + 1, 8, none⟩) (by show w.heap.size ≤ w.heap.size + 1 + 1 + 1; omega) _), ⟨by omega, Nat.le_trans hW bR, Nat.le_trans hW bS, hne1, hne2, X0.ok.rs⟩, ⟨hgT, Or.inr rfl, ?_⟩, ?_, ?_, ?_⟩
                · show _ = Ending.returned (.agg #[.int .i64 (S.p + 1), .int .i64 (-1), .int .i64 n, .int .i64 ((nextL mp.I u S n).getD 0 0), .int .i64 ((nextL mp.I u S n).getD 3 0), .int .i64 ((nextL mp.I u S n).getD 4 0), .slice f.aT S.n1 f.cT, .slice (some ⟨f.gR, 0, none⟩) S.n2 f.cR, .slice f.aS S.n3 f.cS])
                  rw [← eT, ← eS, ← eL, ← eN, ← eM, ← GG.out.nT, ← GG.out.p]
                · have := X0.ok.aS
                  have this : f.ns = 0 ∨ f.aS = some ⟨f.gS, 0, none⟩ := this
                  rw [eM] at this
                  exact this
                · show Rw _ gT (lst S.n1 (fun i => ((lst S.n1 S.L1).set (qOf mp.I n) (dueOf mp.I n + 1)).getD i 0))
                  rw [lst_getD hlt]; exact rwk _ _ hlow hrT
                · show Rw _ f.gR (lst S.n2 (fun i => (stepOut mp.C mp.I u S n).1.getD i 0))
                  rw [lst_getD hlr]; exact rwk _ _ bR X0.ok.hr
                · show Rw _ f.gS (lst S.n3 (fun i => (stepOut mp.C mp.I u S n).2.1.getD i 0))
                  rw [lst_getD hls]; exact rwk _ _ bS X0.ok.hs
              · have HF : Hid (stepB mp.C mp.I (u : Int) S n = bareS (S.p + 1) (stepOut mp.C mp.I u S n).2.2) := by unfold Hid stepB; rw [if_neg n1.out, if_neg m1.out, if_neg n3.out, if_neg n4.out, Int.toNat_natCast, if_pos (by omega)]
                clear hu
                have HFF := Hid.mk hF
                have l0 := blk_cell HFF.out 0
                have l1 := blk_cell HFF.out 1
                have l2 := blk_cell HFF.out 2
                have l3 := blk_cell HFF.out 3
                have l4 := blk_cell HFF.out 4
                have l5 := blk_cell HFF.out 5
                have l6 := blk_cell HFF.out 6
                have l7 := blk_cell HFF.out 7
                have l8 := blk_cell HFF.out 8
                have v0 := blk_cell A5.out 0
                have v1 := blk_cell A5.out 1
                have v2 := blk_cell A5.out 2
                have v3 := blk_cell A5.out 3
                have v4 := blk_cell A5.out 4
                have v5 := blk_cell A5.out 5
                have v6 := blk_cell A5.out 6
                have v7 := blk_cell A5.out 7
                have v8 := blk_cell A5.out 8
                have u0 := blk_unfrozen A5.out 0
                have u1 := blk_unfrozen A5.out 1
                have u2 := blk_unfrozen A5.out 2
                have u3 := blk_unfrozen A5.out 3
                have u4 := blk_unfrozen A5.out 4
                have u5 := blk_unfrozen A5.out 5
                have u6 := blk_unfrozen A5.out 6
                have u7 := blk_unfrozen A5.out 7
                have u8 := blk_unfrozen A5.out 8
                simp only [frC, failC, List.getElem?_toArray, List.getElem?_cons_zero, List.getElem?_cons_succ] at l0 v0 l1 v1 l2 v2 l3 v3 l4 v4 l5 v5 l6 v6 l7 v7 l8 v8
                go_wp2
                have AZ := (blk_set (blk_set (blk_set (blk_set (blk_set (blk_set (blk_set (blk_set (blk_set A5.out 0 (.int .i64 (f.p + 1))) 1 (.int .i64 (stepOut mp.C mp.I u S n).2.2)) 2 (.int .i64 0)) 3 (.int .i64 0)) 4 (.int .i64 0)) 5 (.int .i64 0)) 6 (.slice none 0 0)) 7 (.slice none 0 0)) 8 (.slice none 0 0))
                simp only [List.setIfInBounds_toArray, List.set_cons_zero, List.set_cons_succ] at AZ
                refine bodyPost_ret (results_cell_row Tryz.results23 _ _ (w.heap.size + 1 + 1 + 1) _ _ _ _ (by simp [Act.put]) AZ Tryz.underlying34 rfl infoSt) rfl ?_
                rw [HF.out]
                rw [GG.out.p]
                exact stOwn_bare (((((((((B5.out.setCell (p := ⟨w.heap.size + 1 + 1 + 1, 0, none⟩) (by show w.heap.size ≤ w.heap.size + 1 + 1 + 1; omega) _).setCell (p := ⟨w.heap.size + 1 + 1 + 1, 1, none⟩) (by show w.heap.size ≤ w.heap.size + 1 + 1 + 1; omega) _).setCell (p := ⟨w.heap.size + 1 + 1 + 1, 2, none⟩) (by show w.heap.size ≤ w.heap.size + 1 + 1 + 1; omega) _).setCell (p := ⟨w.heap.size + 1 + 1 + 1, 3, none⟩) (by show w.heap.size ≤ w.heap.size + 1 + 1 + 1; omega) _).setCell (p := ⟨w.heap.size + 1 + 1 + 1, 4, none⟩) (by show w.heap.size ≤ w.heap.size + 1 + 1 + 1; omega) _).setCell (p := ⟨w.heap.size + 1 + 1 + 1, 5, none⟩) (by show w.heap.size ≤ w.heap.size + 1 + 1 + 1; omega) _).setCell (p := ⟨w.heap.size + 1 + 1 + 1, 6, none⟩) (by show w.heap.size ≤ w.heap.size + 1 + 1 + 1; omega) _).setCell (p := ⟨w.heap.size + 1 + 1 + 1, 7, none⟩) (by show w.heap.size ≤ w.heap.size + 1 + 1 + 1; omega) _).setCell (p := ⟨w.heap.size + 1 + 1 + 1, 8, none⟩) (by show w.heap.size ≤ w.heap.size + 1 + 1 + 1; omega) _)
          exact AllReadyH.nil
        exact AllReadyH.nil
      exact AllReadyH.nil
end Go.Proofs.YtgooegcmgejfpaaGreatDoor.Mac
