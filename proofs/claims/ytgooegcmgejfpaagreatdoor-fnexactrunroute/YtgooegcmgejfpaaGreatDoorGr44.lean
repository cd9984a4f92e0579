import Derived.Test.YtgooegcmgejfpaaGreatDoorGr40
import Derived.Test.YtgooegcmgejfpaaGreatDoorGr42
import Derived.Test.YtgooegcmgejfpaaGreatDoorGr35
import Derived.Deep.DrawnRows
import Derived.Deep.CutRange
import Derived.Deep.Cut
import Derived.Deep.DeepCutAuto
namespace Go.Proofs.YtgooegcmgejfpaaGreatDoor.Mac
open Go Go.RowKit Go.Proofs.YtgooegcmgejfpaaGreatDoor.Mem Go.Proofs.YtgooegcmgejfpaaGreatDoor.Travel
open Go.Proofs.YtgooegcmgejfpaaGreatDoor.Valid (inB nodes nodes_bd validB)
open Go.Proofs.YtgooegcmgejfpaaGreatDoor.StV (stopB allIn listB okSt validStS stopS)
open Go.Proofs.YtgooegcmgejfpaaGreatDoor.Arith (cl cl_bd sadd smul addS)
set_option linter.unusedVariables false
set_option linter.unusedSimpArgs false
attribute [local go_sem ↓] Go.wp_at_zero Go.wp_at_succ

/-- The surroundings at a stop. -/
def enStop (I : In) (v q : Nat) : En := ⟨(q : Int), I.nQ, (I.Q q).b, (I.V v).b⟩
theorem enStop_eq {I : In} {v : Nat} {n : Int} {q : Nat} (hs : stopB I n = true) (hq : (n - I.nV) / 2 = (q : Int)) : enAt I v n = enStop I v q := by
  unfold enAt enStop reqOf
  simp [hs, hq]
set_option maxHeartbeats 16000000 in
set_option maxRecDepth 100000 in
theorem stepS (a1 a2 a3 b1 b2 b3 s1 s2 s3 : Option Addr) (c1 c2 c3 d1 d2 d3 t1 t2 t3 : Nat) (C : Co) (I : In) (v : Int) (S : St) (n : Int) (w : World) (hC : CoAt w a1 a2 a3 C) (hI : InAt w b1 b2 b3 I) (hS : StAt w s1 s2 s3 S) (k1 : C.n1 ≤ 1048576) (k2 : C.n2 ≤ 1048576) (k3 : C.n3 ≤ 1048576) (h1 : I.nV ≤ 1048576) (h2 : I.nQ ≤ 1048576) (h3 : I.nR ≤ 1048576) (j1 : S.n1 ≤ 1048576) (j2 : S.n2 ≤ 1048576) (j3 : S.n3 ≤ 1048576) (hcap : S.n2 ≤ t2) :
    Calls Tryz.prog 21 #[.agg #[.int .i64 C.R, .int .i64 C.S, .slice a1 C.n1 c1, .slice a2 C.n2 c2, .slice a3 C.n3 c3], .agg #[.slice b1 I.nV d1, .slice b2 I.nQ d2, .slice b3 I.nR d3], .int .i64 v, .agg #[.int .i64 S.p, .int .i64 S.r, .int .i64 S.d, .int .i64 S.t, .int .i64 S.s, .int .i64 S.l, .slice s1 S.n1 t1, .slice s2 S.n2 t2, .slice s3 S.n3 t3], .int .i64 n] w (StRet2 w (stepB C I v S n)) := by
  have HC := Hid.mk hC
  have HI := Hid.mk hI
  have HS := Hid.mk hS
  clear hC hI hS
  go_enter Tryz.func21, Tryz.ntmps21
  go_wp2_with fail
  refine (validStS a1 a2 a3 b1 b2 b3 s1 s2 s3 c1 c2 c3 d1 d2 d3 t1 t2 t3 C I v S _ (HC.out.below (by go_grown)) (HI.out.below (by go_grown)) (HS.out.below (by go_grown)) (by omega) (by omega) (by omega) (by omega) (by omega) (by omega) (by omega) (by omega) (by omega)).mono ?_
  rintro e w1 ⟨rfl, hb⟩
  have HB := Hid.mk (below_then (w := w) (by go_grown) hb)
  have A0 := Hid.mk (blk_below (blk_alloc (blk_alloc (blk_alloc (blk_new w _) _) _) _) hb)
  have A1 := Hid.mk (blk_below (blk_alloc (blk_alloc (blk_new1 w _ _) _) _) hb)
  have A2 := Hid.mk (blk_below (blk_alloc (blk_new2 w _ _ _) _) hb)
  have A3 := Hid.mk (blk_below (blk_new3 w _ _ _ _) hb)
  clear hb
  have y0 := blk_cell A2.out 0
  have y1 := blk_cell A2.out 1
  simp only [List.getElem?_toArray, List.getElem?_cons_zero, List.getElem?_cons_succ] at y0 y1
  cases hok : okSt C I v S with
  | false =>
    have HF : Hid (stepB C I v S n = bareS (-1) (-1)) := by unfold Hid stepB; rw [if_pos (Or.inl hok)]
    go_wp2_with fail
    refine (deadS _).mono ?_
    rename_i hKK
    rintro e wz ⟨rfl, hbz⟩
    refine hKK _ _ ?_
    clear hKK
    have AZ := Hid.mk (blk_below A3.out hbz)
    have BZ := Hid.mk (below_then HB.out hbz)
    clear hbz
    refine wpList_store_row rfl _ _ _ rfl (w.heap.size + 1 + 1 + 1) #[.int .i64 (-1), .int .i64 (-1), .int .i64 0, .int .i64 0, .int .i64 0, .int .i64 0, .slice none 0 0, .slice none 0 0, .slice none 0 0] rfl rfl _ _ AZ.out infoSt rfl (by simp [Value.oneCell']) ?_
    go_wp2
    refine bodyPost_ret (results_cell_row Tryz.results21 _ _ (w.heap.size + 1 + 1 + 1) _ _ _ _ (by simp [Act.put]) (row_self AZ.out _) Tryz.underlying34 rfl infoSt) rfl ?_
    exact ⟨none, none, none, 0, 0, 0, by rw [HF.out]; rfl, by rw [HF.out]; exact bare_at _ _ _, row_below BZ.out (by omega) _, by rw [HF.out]; exact bare_fre _ _ _, by rw [HF.out]; exact Nat.le_refl _⟩
  | true =>
    by_cases hp : S.p = -1
    · have HF : Hid (stepB C I v S n = bareS (-1) (-1)) := by unfold Hid stepB; rw [if_pos (Or.inr hp)]
      have e1 : (S.p == -1) = true := by simp [hp]
      clear hp
      go_wp2_with fail
      refine (deadS _).mono ?_
      rename_i hKK
      rintro e wz ⟨rfl, hbz⟩
      refine hKK _ _ ?_
      clear hKK
      have AZ := Hid.mk (blk_below A3.out hbz)
      have BZ := Hid.mk (below_then HB.out hbz)
      clear hbz
      refine wpList_store_row rfl _ _ _ rfl (w.heap.size + 1 + 1 + 1) #[.int .i64 (-1), .int .i64 (-1), .int .i64 0, .int .i64 0, .int .i64 0, .int .i64 0, .slice none 0 0, .slice none 0 0, .slice none 0 0] rfl rfl _ _ AZ.out infoSt rfl (by simp [Value.oneCell']) ?_
      go_wp2
      refine bodyPost_ret (results_cell_row Tryz.results21 _ _ (w.heap.size + 1 + 1 + 1) _ _ _ _ (by simp [Act.put]) (row_self AZ.out _) Tryz.underlying34 rfl infoSt) rfl ?_
      exact ⟨none, none, none, 0, 0, 0, by rw [HF.out]; rfl, by rw [HF.out]; exact bare_at _ _ _, row_below BZ.out (by omega) _, by rw [HF.out]; exact bare_fre _ _ _, by rw [HF.out]; exact Nat.le_refl _⟩
    by_cases hr : 0 ≤ S.r
    · have HF : Hid (stepB C I v S n = bareS S.p S.r) := by unfold Hid stepB; rw [if_neg (by rw [hok]; simp [hp]), if_pos hr]
      have e1 : (S.p == -1) = false := by simp [hp]
      have e2 : decide (0 ≤ S.r) = true := by simp [hr]
      clear hp
      go_wp2_with fail
      refine (failedS S.p S.r _).mono ?_
      rename_i hKK
      rintro e wz ⟨rfl, hbz⟩
      refine hKK _ _ ?_
      clear hKK
      have AZ := Hid.mk (blk_below A3.out hbz)
      have BZ := Hid.mk (below_then HB.out hbz)
      clear hbz
      refine wpList_store_row rfl _ _ _ rfl (w.heap.size + 1 + 1 + 1) #[.int .i64 S.p, .int .i64 S.r, .int .i64 0, .int .i64 0, .int .i64 0, .int .i64 0, .slice none 0 0, .slice none 0 0, .slice none 0 0] rfl rfl _ _ AZ.out infoSt rfl (by simp [Value.oneCell']) ?_
      go_wp2
      refine bodyPost_ret (results_cell_row Tryz.results21 _ _ (w.heap.size + 1 + 1 + 1) _ _ _ _ (by simp [Act.put]) (row_self AZ.out _) Tryz.underlying34 rfl infoSt) rfl ?_
      exact ⟨none, none, none, 0, 0, 0, by rw [HF.out]; rfl, by rw [HF.out]; exact bare_at _ _ _, row_below BZ.out (by omega) _, by rw [HF.out]; exact bare_fre _ _ _, by rw [HF.out]; exact Nat.le_refl _⟩
    obtain ⟨hv0, R⟩ := run_ok hok hp hr
    obtain ⟨u, rfl⟩ : ∃ u : Nat, v = (u : Int) := ⟨v.toNat, by omega⟩
    rw [Int.toNat_natCast] at R
    have R := Hid.mk R
    have e1 : (S.p == -1) = false := by simp [hp]
    have e2 : decide (0 ≤ S.r) = false := by simp [hr]
    have HP := Hid.mk hp
    have HR := Hid.mk hr
    have HOK := Hid.mk hok
    have n1 := Hid.mk (show ¬ (okSt C I (u : Int) S = false ∨ S.p = -1) by rw [hok]; simp [hp])
    have n2 := Hid.mk hr
    obtain ⟨q1, q2, q3⟩ := lens_bd (validB_parts R.out.val).1
    clear hp hr hok
    by_cases h4 : S.p = 4096
    · have HF : Hid (stepB C I (u : Int) S n = bareS (-1) (-1)) := by unfold Hid stepB; rw [if_neg n1.out, if_neg (by have := n2.out; omega), if_pos (Or.inl h4)]
      have e3 : (S.p == 4096) = true := by simp [h4]
      clear h4
      go_wp2_with fail
      refine (deadS _).mono ?_
      rename_i hKK
      rintro e wz ⟨rfl, hbz⟩
      refine hKK _ _ ?_
      clear hKK
      have AZ := Hid.mk (blk_below A3.out hbz)
      have BZ := Hid.mk (below_then HB.out hbz)
      clear hbz
      refine wpList_store_row rfl _ _ _ rfl (w.heap.size + 1 + 1 + 1) #[.int .i64 (-1), .int .i64 (-1), .int .i64 0, .int .i64 0, .int .i64 0, .int .i64 0, .slice none 0 0, .slice none 0 0, .slice none 0 0] rfl rfl _ _ AZ.out infoSt rfl (by simp [Value.oneCell']) ?_
      go_wp2
      refine bodyPost_ret (results_cell_row Tryz.results21 _ _ (w.heap.size + 1 + 1 + 1) _ _ _ _ (by simp [Act.put]) (row_self AZ.out _) Tryz.underlying34 rfl infoSt) rfl ?_
      exact ⟨none, none, none, 0, 0, 0, by rw [HF.out]; rfl, by rw [HF.out]; exact bare_at _ _ _, row_below BZ.out (by omega) _, by rw [HF.out]; exact bare_fre _ _ _, by rw [HF.out]; exact Nat.le_refl _⟩
    have e3 : (S.p == 4096) = false := by simp [h4]
    have x0 := blk_cell A1.out 0
    have x1 := blk_cell A1.out 1
    have x2 := blk_cell A1.out 2
    simp only [List.getElem?_toArray, List.getElem?_cons_zero, List.getElem?_cons_succ] at x0 x1 x2
    have H4 := Hid.mk h4
    clear h4
    go_wp2_with fail
    refine (stopS b1 b2 b3 d1 d2 d3 I n _ (by omega) (by omega)).mono ?_
    rintro e w2 ⟨rfl, hb⟩
    have HB := Hid.mk (below_then HB.out hb)
    have A0 := Hid.mk (blk_below A0.out hb)
    have A1 := Hid.mk (blk_below A1.out hb)
    have A2 := Hid.mk (blk_below A2.out hb)
    have A3 := Hid.mk (blk_below A3.out hb)
    clear hb x0 x1 x2 y0 y1
    cases hst : stopB I n with
    | false =>
      have HF : Hid (stepB C I (u : Int) S n = bareS (-1) (-1)) := by unfold Hid stepB; rw [if_neg n1.out, if_neg (by have := n2.out; omega), if_pos (Or.inr hst)]
      go_wp2_with fail
      refine (deadS _).mono ?_
      rename_i hKK
      rintro e wz ⟨rfl, hbz⟩
      refine hKK _ _ ?_
      clear hKK
      have AZ := Hid.mk (blk_below A3.out hbz)
      have BZ := Hid.mk (below_then HB.out hbz)
      clear hbz
      refine wpList_store_row rfl _ _ _ rfl (w.heap.size + 1 + 1 + 1) #[.int .i64 (-1), .int .i64 (-1), .int .i64 0, .int .i64 0, .int .i64 0, .int .i64 0, .slice none 0 0, .slice none 0 0, .slice none 0 0] rfl rfl _ _ AZ.out infoSt rfl (by simp [Value.oneCell']) ?_
      go_wp2
      refine bodyPost_ret (results_cell_row Tryz.results21 _ _ (w.heap.size + 1 + 1 + 1) _ _ _ _ (by simp [Act.put]) (row_self AZ.out _) Tryz.underlying34 rfl infoSt) rfl ?_
      exact ⟨none, none, none, 0, 0, 0, by rw [HF.out]; rfl, by rw [HF.out]; exact bare_at _ _ _, row_below BZ.out (by omega) _, by rw [HF.out]; exact bare_fre _ _ _, by rw [HF.out]; exact Nat.le_refl _⟩
    | true =>
      have n3 := Hid.mk (show ¬ (S.p = 4096 ∨ stopB I n = false) by rw [hst]; have := H4.out; simp [this])
      obtain ⟨g1, g2, g3, g4⟩ := stop_bd hst
      have m0 : 0 ≤ n := by omega
      obtain ⟨q, hq⟩ : ∃ q : Nat, (n - I.nV) / 2 = (q : Int) := ⟨((n - I.nV) / 2).toNat, by omega⟩
      have hqe : Hid (qOf I n = q) := by unfold Hid qOf; rw [hq]; exact Int.toNat_natCast q
      have hqn : q < I.nQ := by omega
      have HQ := Hid.mk hq
      have HST := Hid.mk hst
      have x0 := blk_cell A1.out 0
      have x1 := blk_cell A1.out 1
      have x2 := blk_cell A1.out 2
      simp only [List.getElem?_toArray, List.getElem?_cons_zero, List.getElem?_cons_succ] at x0 x1 x2
      go_wp2_with fail
      refine (reqS b1 b2 b3 d1 d2 d3 I n _ q1 q2 hst).mono ?_
      rintro e w3 ⟨rfl, hb⟩
      have HB := Hid.mk (below_then HB.out hb)
      have A0 := Hid.mk (blk_below A0.out hb)
      have A1 := Hid.mk (blk_below A1.out hb)
      have A2 := Hid.mk (blk_below A2.out hb)
      have A3 := Hid.mk (blk_below A3.out hb)
      clear hb x0 x1 x2
      rw [hq]
      clear hq hst
      have hqs : q < S.n1 := by have := R.out.l1; omega
      obtain ⟨gs, os, rfl, hc⟩ := (HS.out.below HB.out).s1.at hqs
      have y6 := blk_cell A2.out 6
      simp only [List.getElem?_toArray, List.getElem?_cons_zero, List.getElem?_cons_succ] at y6
      have kk0 : (0 : Int) ≤ (q : Int) := by omega
      have kk1 : (q : Int) < (S.n1 : Int) := by omega
      obtain ⟨tq, htq⟩ : ∃ tq, tq = S.L1 q := ⟨_, rfl⟩
      rw [← htq] at hc
      have HTQ := Hid.mk htq
      clear htq
      go_upto_region 9 with fail
      clear y6 hc
      go_cut [68] (fun b wx => b = .bool (decide (tq ≠ dueOf I n)) ∧ Hid (Below w.heap.size w wx) ∧ Hid (wx.heap[w.heap.size]? = some (.cells #[.int .i64 C.R, .int .i64 C.S, .slice a1 C.n1 c1, .slice a2 C.n2 c2, .slice a3 C.n3 c3] 38)) ∧ Hid (wx.heap[w.heap.size + 1]? = some (.cells #[.slice b1 I.nV d1, .slice b2 I.nQ d2, .slice b3 I.nR d3] 44)) ∧ Hid (wx.heap[w.heap.size + 1 + 1]? = some (.cells #[.int .i64 S.p, .int .i64 S.r, .int .i64 S.d, .int .i64 S.t, .int .i64 S.s, .int .i64 S.l, .slice (some ⟨gs, os, none⟩) S.n1 t1, .slice s2 S.n2 t2, .slice s3 S.n3 t3] 34)) ∧ Hid (wx.heap[w.heap.size + 1 + 1 + 1]? = some (.cells #[.int .i64 0, .int .i64 0, .int .i64 0, .int .i64 0, .int .i64 0, .int .i64 0, .slice none 0 0, .slice none 0 0, .slice none 0 0] 34)))
      case first =>
        have x0 := blk_cell A1.out 0
        have x1 := blk_cell A1.out 1
        have x2 := blk_cell A1.out 2
        simp only [List.getElem?_toArray, List.getElem?_cons_zero, List.getElem?_cons_succ] at x0 x1 x2
        have hdue : dueOf I n = bit ((n - I.nV) % 2 == 1) := rfl
        have hmod : (n - (I.nV : Int)) % 2 = 0 ∨ (n - (I.nV : Int)) % 2 = 1 := by omega
        go_wp2_with fail
        refine (pickS b1 b2 b3 d1 d2 d3 I n _ q1 q2).mono ?_
        rintro e w4 ⟨rfl, hb⟩
        have HB := Hid.mk (below_then HB.out hb)
        have A0 := Hid.mk (blk_below A0.out hb)
        have A1 := Hid.mk (blk_below A1.out hb)
        have A2 := Hid.mk (blk_below A2.out hb)
        have A3 := Hid.mk (blk_below A3.out hb)
        clear hb x0 x1 x2
        have x0 := blk_cell A1.out 0
        have x1 := blk_cell A1.out 1
        have x2 := blk_cell A1.out 2
        simp only [List.getElem?_toArray, List.getElem?_cons_zero, List.getElem?_cons_succ] at x0 x1 x2
        rcases hmod with hm | hm
        · have hd0 : Hid (dueOf I n = 0) := by unfold Hid; rw [hdue, hm]; rfl
          have hpk : (stopB I n && ((n - (I.nV : Int)) % 2 == 0)) = true := by rw [HST.out, hm]; rfl
          have hdp : (stopB I n && ((n - (I.nV : Int)) % 2 == 1)) = false := by rw [HST.out, hm]; rfl
          rw [hpk]
          clear hm hdue
          by_cases ht : tq = 0
          · have e5 : (tq != 0) = false := by simp [ht]
            have hres : Hid (decide (tq ≠ dueOf I n) = false) := by unfold Hid; rw [hd0.out, ht]; simp
            clear ht hpk
            go_wp2_with fail
            refine (dropS b1 b2 b3 d1 d2 d3 I n _ q1 q2).mono ?_
            rintro e w5 ⟨rfl, hb⟩
            rw [hdp]
            clear hdp
            go_wp2_with fail
            go_meet
            exact ⟨by rw [hres.out], Hid.mk (below_then HB.out hb), Hid.mk (blk_below A0.out hb), Hid.mk (blk_below A1.out hb), Hid.mk (blk_below A2.out hb), Hid.mk (blk_below A3.out hb)⟩
          · have e5 : (tq != 0) = true := by simp [ht]
            have hres : Hid (decide (tq ≠ dueOf I n) = true) := by unfold Hid; rw [hd0.out]; simp [ht]
            clear ht hpk
            go_wp2_with fail
            go_meet
            exact ⟨by rw [hres.out], HB, A0, A1, A2, A3⟩
        · have hd0 : Hid (dueOf I n = 1) := by unfold Hid; rw [hdue, hm]; rfl
          have hpk : (stopB I n && ((n - (I.nV : Int)) % 2 == 0)) = false := by rw [HST.out, hm]; rfl
          have hdp : (stopB I n && ((n - (I.nV : Int)) % 2 == 1)) = true := by rw [HST.out, hm]; rfl
          rw [hpk]
          clear hm hdue hpk
          go_wp2_with fail
          refine (dropS b1 b2 b3 d1 d2 d3 I n _ q1 q2).mono ?_
          rintro e w5 ⟨rfl, hb⟩
          rw [hdp]
          clear hdp
          by_cases ht : tq = 1
          · have e5 : (tq != 1) = false := by simp [ht]
            have hres : Hid (decide (tq ≠ dueOf I n) = false) := by unfold Hid; rw [hd0.out, ht]; simp
            clear ht
            go_wp2_with fail
            go_meet
            exact ⟨by rw [hres.out], Hid.mk (below_then HB.out hb), Hid.mk (blk_below A0.out hb), Hid.mk (blk_below A1.out hb), Hid.mk (blk_below A2.out hb), Hid.mk (blk_below A3.out hb)⟩
          · have e5 : (tq != 1) = true := by simp [ht]
            have hres : Hid (decide (tq ≠ dueOf I n) = true) := by unfold Hid; rw [hd0.out]; simp [ht]
            clear ht
            go_wp2_with fail
            go_meet
            exact ⟨by rw [hres.out], Hid.mk (below_then HB.out hb), Hid.mk (blk_below A0.out hb), Hid.mk (blk_below A1.out hb), Hid.mk (blk_below A2.out hb), Hid.mk (blk_below A3.out hb)⟩
      case rest =>
        obtain ⟨rfl, HB, A0, A1, A2, A3⟩ := hcut
        have y0 := blk_cell A2.out 0
        simp only [List.getElem?_toArray, List.getElem?_cons_zero, List.getElem?_cons_succ] at y0
        have hpw : IntKind.i64.wrap (S.p + 1) = S.p + 1 := by rw [IntKind.wrap_i64]; have := R.out.p0; have := R.out.p1; omega
        by_cases hw : tq = dueOf I n
        · have hd : decide (tq ≠ dueOf I n) = false := by simp [hw]
          rw [hd]
          have n4 : Hid (¬ S.L1 (qOf I n) ≠ dueOf I n) := by unfold Hid; rw [hqe.out, ← HTQ.out]; exact fun h => h hw
          have hdub : Hid (0 ≤ tq ∧ tq ≤ 1) := by unfold Hid; rw [hw]; exact bit_bd _
          have HWQ := Hid.mk hw
          clear hd hw
          have hu := R.out.hv
          have hu0 : (0 : Int) ≤ (u : Int) := by omega
          have hu1 : (u : Int) < (I.nV : Int) := by omega
          have hq1 : (q : Int) < (I.nQ : Int) := by omega
          have y1 := blk_cell A2.out 1
          have y2 := blk_cell A2.out 2
          have y3 := blk_cell A2.out 3
          have y4 := blk_cell A2.out 4
          have y5 := blk_cell A2.out 5
          have y6 := blk_cell A2.out 6
          have y7 := blk_cell A2.out 7
          have y8 := blk_cell A2.out 8
          have x0 := blk_cell A1.out 0
          have x1 := blk_cell A1.out 1
          have x2 := blk_cell A1.out 2
          simp only [List.getElem?_toArray, List.getElem?_cons_zero, List.getElem?_cons_succ] at y1 y2 y3 y4 y5 y6 y7 y8 x0 x1 x2
          have zo := plOf_ok' R.out.val (n := n) m0 g2
          have zs := size_bd R.out.val n
          have z1 : -1000000000 ≤ (plOf I n).o := by have := zo.o0; omega
          have z2 : (plOf I n).o ≤ 1000000000 := by have a1 := zo.oc; have a2 := zo.c1; omega
          have z3 : 0 ≤ sizeOf I n := zs.1
          have z4 : sizeOf I n ≤ 1000000 := by have := zs.2; omega
          have z5 : S.p ≤ 100000 := by have := R.out.p1; omega
          clear zo zs
          have NX := Hid.mk (fun W (hW : InAt W b1 b2 b3 I) => nextS b1 b2 b3 d1 d2 d3 I u S.p S.r S.d S.t S.s S.l n (some ⟨gs, os, none⟩) s2 s3 S.n1 t1 S.n2 t2 S.n3 t3 W hW R.out.val q1 q2 hu R.out.d0 R.out.d1 m0 g2 R.out.p0 z5 (sizeOf I n) (plOf I n).o (plOf I n).c (plOf I n).h (I.V u).a (pickOf I n) (dropOf I n) (legV I S.d n) (sadd (sadd S.t (plOf I S.d).h) (legV I S.d n)) (max (plOf I n).o (sadd (sadd S.t (plOf I S.d).h) (legV I S.d n))) (plOf I S.d).h rfl rfl rfl rfl rfl rfl rfl rfl rfl rfl rfl z1 z2 z3 z4)
          clear z1 z2 z3 z4 z5
          go_wp2_with fail
          refine (NX.out _ (HI.out.below HB.out)).mono ?_
          rintro e w6 ⟨g2', rfl, hl2, hb2, hg2'⟩
          have HG2 : Hid (w.heap.size + 1 + 1 + 1 < g2') := Nat.lt_of_lt_of_le (blk_lt A3.out) hg2'
          clear hg2'
          have HL : Hid (Li w6 (some ⟨g2', 0, none⟩) (nextL I u S n)) := hl2
          have HB := Hid.mk (below_then HB.out hb2)
          have A0 := Hid.mk (blk_below A0.out hb2)
          have A1 := Hid.mk (blk_below A1.out hb2)
          have A2 := Hid.mk (blk_below A2.out hb2)
          have A3 := Hid.mk (blk_below A3.out hb2)
          clear hl2 hb2 y0 y1 y2 y3 y4 y5 y6 y7 y8 x0 x1 x2
          go_upto_region 12 with fail
          rcases HI.out.v with h0 | ⟨gv, ov, rfl, hvv⟩
          · omega
          rcases HI.out.q with h0 | ⟨gq, oq, rfl, hqq⟩
          · omega
          obtain ⟨-, kb0, -⟩ := Veh.at (hvv u hu)
          obtain ⟨-, kq0, -⟩ := Req.at (hqq q hqn)
          have hgv : Hid (gv < w.heap.size ∧ gq < w.heap.size) := ⟨lt_of_cell kb0, lt_of_cell kq0⟩
          have kb := cell_keep HB.out kb0
          have kq := cell_keep HB.out kq0
          clear kb0 kq0 hvv hqq
          have y7 := blk_cell A2.out 7
          have y8 := blk_cell A2.out 8
          have x0 := blk_cell A1.out 0
          have x1 := blk_cell A1.out 1
          simp only [List.getElem?_toArray, List.getElem?_cons_zero, List.getElem?_cons_succ] at y7 y8 x0 x1
          have HSS := Hid.mk (And.intro x0 (And.intro x1 (And.intro y7 (And.intro y8 (And.intro kb kq)))))
          clear x0 x1 y7 y8 kb kq
          go_cut [14] (fun m wx => ∃ (M g3 c3' : Nat), m = .pointer (some ⟨M, 0, none⟩) ∧ Hid (w.heap.size + 1 + 1 + 1 < M ∧ w.heap.size + 1 + 1 + 1 < g3 ∧ S.n2 ≤ c3') ∧ Hid (Below w.heap.size w wx) ∧ Hid (wx.heap[M]? = some (.cells #[.slice (some ⟨g3, 0, none⟩) S.n2 c3', .slice s3 S.n3 t3, .int .i64 (I.Q q).b, .int .i64 (I.V u).b, .int .i64 (q : Int), .int .i64 (I.nQ : Int), .int .i64 (-1)] 83)) ∧ Hid (Li wx (some ⟨g3, 0, none⟩) (nextL I u S n ++ (lst S.n2 S.L2).drop 13)) ∧ Hid (Li wx (some ⟨g2', 0, none⟩) (nextL I u S n)) ∧ Hid (wx.heap[w.heap.size]? = some (.cells #[.int .i64 C.R, .int .i64 C.S, .slice a1 C.n1 c1, .slice a2 C.n2 c2, .slice a3 C.n3 c3] 38)) ∧ Hid (wx.heap[w.heap.size + 1 + 1]? = some (.cells #[.int .i64 S.p, .int .i64 S.r, .int .i64 S.d, .int .i64 S.t, .int .i64 S.s, .int .i64 S.l, .slice (some ⟨gs, os, none⟩) S.n1 t1, .slice s2 S.n2 t2, .slice s3 S.n3 t3] 34)) ∧ Hid (wx.heap[w.heap.size + 1 + 1 + 1]? = some (.cells #[.int .i64 0, .int .i64 0, .int .i64 0, .int .i64 0, .int .i64 0, .int .i64 0, .slice none 0 0, .slice none 0 0, .slice none 0 0] 34)))
          case first =>
            have HB := Hid.mk HB.out.drew
            have A0 := Hid.mk (blk_drew A0.out)
            have A2 := Hid.mk (blk_drew A2.out)
            have A3 := Hid.mk (blk_drew A3.out)
            have HL := Hid.mk (HL.out.below (Below.refl _ _).drew)
            refine wp_region_held_drew (S := (fun w' => w'.cell? ⟨w.heap.size + 1, 0, none⟩ = some (.slice (some ⟨gv, ov, none⟩) I.nV d1) ∧ w'.cell? ⟨w.heap.size + 1, 1, none⟩ = some (.slice (some ⟨gq, oq, none⟩) I.nQ d2) ∧ w'.cell? ⟨w.heap.size + 1 + 1, 7, none⟩ = some (.slice s2 S.n2 t2) ∧ w'.cell? ⟨w.heap.size + 1 + 1, 8, none⟩ = some (.slice s3 S.n3 t3) ∧ w'.cell? ⟨gv, ov + u * 7 + 1, none⟩ = some (.int .i64 (I.V u).b) ∧ w'.cell? ⟨gq, oq + q * 12 + 1, none⟩ = some (.int .i64 (I.Q q).b))) (by kernel_rfl) ?_ (fun hHeld => ?_)
            · exact HSS.out
            refine wpAnyH_take (i := 0) (v := ?_) rfl (by kernel_rfl) (by kernel_rfl) (by kernel_rfl) (fun _ _ _ h => h) (Or.inl ⟨by rfl, ?_⟩) (by assumption) ?_
            rotate_left
            · intro w hSw; (try dsimp only at hSw); go_simp; (try with_reducible rfl)
            rotate_left
            simp only [Act.put, List.setIfInBounds_toArray, List.set_cons_zero, List.set_cons_succ, List.getElem_toArray, List.getElem_cons_zero, List.getElem_cons_succ]
            refine wpAnyH_take (i := 1) (v := ?_) rfl (by kernel_rfl) (by kernel_rfl) (by kernel_rfl) (fun _ _ _ h => h) (Or.inl ⟨by rfl, ?_⟩) (by assumption) ?_
            rotate_left
            · intro w hSw; (try dsimp only at hSw); go_simp; (try with_reducible rfl)
            rotate_left
            simp only [Act.put, List.setIfInBounds_toArray, List.set_cons_zero, List.set_cons_succ, List.getElem_toArray, List.getElem_cons_zero, List.getElem_cons_succ]
            refine wpAnyH_take (i := 2) (v := ?_) rfl (by kernel_rfl) (by kernel_rfl) (by kernel_rfl) (fun _ _ _ h => h) (Or.inl ⟨by rfl, ?_⟩) (by assumption) ?_
            rotate_left
            · intro w hSw; (try dsimp only at hSw); go_simp; (try with_reducible rfl)
            rotate_left
            simp only [Act.put, List.setIfInBounds_toArray, List.set_cons_zero, List.set_cons_succ, List.getElem_toArray, List.getElem_cons_zero, List.getElem_cons_succ]
            refine wpAnyH_take (i := 4) (v := ?_) rfl (by kernel_rfl) (by kernel_rfl) (by kernel_rfl) (fun _ _ _ h => h) (Or.inl ⟨by rfl, ?_⟩) (by assumption) ?_
            rotate_left
            · intro w hSw; (try dsimp only at hSw); go_simp; (try with_reducible rfl)
            rotate_left
            simp only [Act.put, List.setIfInBounds_toArray, List.set_cons_zero, List.set_cons_succ, List.getElem_toArray, List.getElem_cons_zero, List.getElem_cons_succ]
            refine wpAnyH_take (i := 5) (v := ?_) rfl (by kernel_rfl) (by kernel_rfl) (by kernel_rfl) (fun _ _ _ h => h) (Or.inl ⟨by rfl, ?_⟩) (by assumption) ?_
            rotate_left
            · intro w hSw; (try dsimp only at hSw); go_simp; (try with_reducible rfl)
            rotate_left
            simp only [Act.put, List.setIfInBounds_toArray, List.set_cons_zero, List.set_cons_succ, List.getElem_toArray, List.getElem_cons_zero, List.getElem_cons_succ]
            refine wpAnyH_take (i := 6) (v := ?_) rfl (by kernel_rfl) (by kernel_rfl) (by kernel_rfl) (fun _ _ _ h => h) (Or.inl ⟨by rfl, ?_⟩) (by assumption) ?_
            rotate_left
            · intro w hSw; (try dsimp only at hSw); go_simp; (try with_reducible rfl)
            rotate_left
            simp only [Act.put, List.setIfInBounds_toArray, List.set_cons_zero, List.set_cons_succ, List.getElem_toArray, List.getElem_cons_zero, List.getElem_cons_succ]
            refine wpAnyH_take (i := 7) (v := ?_) rfl (by kernel_rfl) (by kernel_rfl) (by kernel_rfl) (fun _ _ _ h => h) (Or.inl ⟨by rfl, ?_⟩) (by assumption) ?_
            rotate_left
            · intro w hSw; (try dsimp only at hSw); go_simp; (try with_reducible rfl)
            rotate_left
            simp only [Act.put, List.setIfInBounds_toArray, List.set_cons_zero, List.set_cons_succ, List.getElem_toArray, List.getElem_cons_zero, List.getElem_cons_succ]
            refine wpAnyH_take (i := 8) (v := ?_) rfl (by kernel_rfl) (by kernel_rfl) (by kernel_rfl) (fun _ _ _ h => h) (Or.inl ⟨by rfl, ?_⟩) (by assumption) ?_
            rotate_left
            · intro w hSw; (try dsimp only at hSw); go_simp; (try with_reducible rfl)
            rotate_left
            simp only [Act.put, List.setIfInBounds_toArray, List.set_cons_zero, List.set_cons_succ, List.getElem_toArray, List.getElem_cons_zero, List.getElem_cons_succ]
            refine wpAnyH_take (i := 9) (v := ?_) rfl (by kernel_rfl) (by kernel_rfl) (by kernel_rfl) (fun _ _ _ h => h) (Or.inl ⟨by rfl, ?_⟩) (by assumption) ?_
            rotate_left
            · intro w hSw; (try dsimp only at hSw); go_simp; (try with_reducible rfl)
            rotate_left
            simp only [Act.put, List.setIfInBounds_toArray, List.set_cons_zero, List.set_cons_succ, List.getElem_toArray, List.getElem_cons_zero, List.getElem_cons_succ]
            refine wpAnyH_take (i := 10) (v := ?_) rfl (by kernel_rfl) (by kernel_rfl) (by kernel_rfl) (fun _ _ _ h => h) (Or.inl ⟨by rfl, ?_⟩) (by assumption) ?_
            rotate_left
            · intro w hSw; (try dsimp only at hSw); go_simp; (try with_reducible rfl)
            rotate_left
            simp only [Act.put, List.setIfInBounds_toArray, List.set_cons_zero, List.set_cons_succ, List.getElem_toArray, List.getElem_cons_zero, List.getElem_cons_succ]
            refine wpAnyH_take (i := 11) (v := ?_) rfl (by kernel_rfl) (by kernel_rfl) (by kernel_rfl) (fun _ _ _ h => h) (Or.inl ⟨by rfl, ?_⟩) (by assumption) ?_
            rotate_left
            · intro w hSw; (try dsimp only at hSw); go_simp; (try with_reducible rfl)
            rotate_left
            simp only [Act.put, List.setIfInBounds_toArray, List.set_cons_zero, List.set_cons_succ, List.getElem_toArray, List.getElem_cons_zero, List.getElem_cons_succ]
            refine wpAnyH_take (i := 12) (v := ?_) rfl (by kernel_rfl) (by kernel_rfl) (by kernel_rfl) (fun _ _ _ h => h) (Or.inl ⟨by rfl, ?_⟩) (by assumption) ?_
            rotate_left
            · intro w hSw; (try dsimp only at hSw); go_simp; (try with_reducible rfl)
            rotate_left
            simp only [Act.put, List.setIfInBounds_toArray, List.set_cons_zero, List.set_cons_succ, List.getElem_toArray, List.getElem_cons_zero, List.getElem_cons_succ]
            refine wpAnyH_take (i := 13) (v := ?_) rfl (by kernel_rfl) (by kernel_rfl) (by kernel_rfl) (fun _ _ _ h => h) (Or.inl ⟨by rfl, ?_⟩) (by assumption) ?_
            rotate_left
            · intro w hSw; (try dsimp only at hSw); go_simp; (try with_reducible rfl)
            rotate_left
            simp only [Act.put, List.setIfInBounds_toArray, List.set_cons_zero, List.set_cons_succ, List.getElem_toArray, List.getElem_cons_zero, List.getElem_cons_succ]
            refine wpAnyH_take (i := 14) (v := ?_) rfl (by kernel_rfl) (by kernel_rfl) (by kernel_rfl) (fun _ _ _ h => h) (Or.inl ⟨by rfl, ?_⟩) (by assumption) ?_
            rotate_left
            · intro w hSw; (try dsimp only at hSw); go_simp; (try with_reducible rfl)
            rotate_left
            simp only [Act.put, List.setIfInBounds_toArray, List.set_cons_zero, List.set_cons_succ, List.getElem_toArray, List.getElem_cons_zero, List.getElem_cons_succ]
            refine wpAnyH_take (i := 15) (v := ?_) rfl (by kernel_rfl) (by kernel_rfl) (by kernel_rfl) (fun _ _ _ h => h) (Or.inl ⟨by rfl, ?_⟩) (by assumption) ?_
            rotate_left
            · intro w hSw; (try dsimp only at hSw); go_simp; (try with_reducible rfl)
            rotate_left
            simp only [Act.put, List.setIfInBounds_toArray, List.set_cons_zero, List.set_cons_succ, List.getElem_toArray, List.getElem_cons_zero, List.getElem_cons_succ]
            refine wpAnyH_take (i := 16) (v := ?_) rfl (by kernel_rfl) (by kernel_rfl) (by kernel_rfl) (fun _ _ _ h => h) (Or.inl ⟨by rfl, ?_⟩) (by assumption) ?_
            rotate_left
            · intro w hSw; (try dsimp only at hSw); go_simp; (try with_reducible rfl)
            rotate_left
            simp only [Act.put, List.setIfInBounds_toArray, List.set_cons_zero, List.set_cons_succ, List.getElem_toArray, List.getElem_cons_zero, List.getElem_cons_succ]
            refine wpAnyH_take (i := 17) (v := ?_) rfl (by kernel_rfl) (by kernel_rfl) (by kernel_rfl) (fun _ _ _ h => h) (Or.inl ⟨by rfl, ?_⟩) (by assumption) ?_
            rotate_left
            · intro w hSw; (try dsimp only at hSw); go_simp; (try with_reducible rfl)
            rotate_left
            simp only [Act.put, List.setIfInBounds_toArray, List.set_cons_zero, List.set_cons_succ, List.getElem_toArray, List.getElem_cons_zero, List.getElem_cons_succ]
            refine wpAnyH_take (i := 18) (v := ?_) rfl (by kernel_rfl) (by kernel_rfl) (by kernel_rfl) (fun _ _ _ h => h) (Or.inl ⟨by rfl, ?_⟩) (by assumption) ?_
            rotate_left
            · intro w hSw; (try dsimp only at hSw); go_simp; (try with_reducible rfl)
            rotate_left
            simp only [Act.put, List.setIfInBounds_toArray, List.set_cons_zero, List.set_cons_succ, List.getElem_toArray, List.getElem_cons_zero, List.getElem_cons_succ]
            refine wpAnyH_take (i := 19) (v := ?_) rfl (by kernel_rfl) (by kernel_rfl) (by kernel_rfl) (fun _ _ _ h => h) (Or.inl ⟨by rfl, ?_⟩) (by assumption) ?_
            rotate_left
            · intro w hSw; (try dsimp only at hSw); go_simp; (try with_reducible rfl)
            rotate_left
            simp only [Act.put, List.setIfInBounds_toArray, List.set_cons_zero, List.set_cons_succ, List.getElem_toArray, List.getElem_cons_zero, List.getElem_cons_succ]
            refine wpAnyH_take (i := 20) (v := ?_) rfl (by kernel_rfl) (by kernel_rfl) (by kernel_rfl) (fun _ _ _ h => h) (Or.inl ⟨by rfl, ?_⟩) (by assumption) ?_
            rotate_left
            · intro w hSw; (try dsimp only at hSw); go_simp; (try with_reducible rfl)
            rotate_left
            simp only [Act.put, List.setIfInBounds_toArray, List.set_cons_zero, List.set_cons_succ, List.getElem_toArray, List.getElem_cons_zero, List.getElem_cons_succ]
            refine wpAnyH_take (i := 21) (v := ?_) rfl (by kernel_rfl) (by kernel_rfl) (by kernel_rfl) (fun _ _ _ h => h) (Or.inl ⟨by rfl, ?_⟩) (by assumption) ?_
            rotate_left
            · intro w hSw; (try dsimp only at hSw); go_simp; (try with_reducible rfl)
            rotate_left
            simp only [Act.put, List.setIfInBounds_toArray, List.set_cons_zero, List.set_cons_succ, List.getElem_toArray, List.getElem_cons_zero, List.getElem_cons_succ]
            refine wpAnyH_ready (rs := [3, 23]) (by kernel_rfl) (by simp) ?_
            refine AllReadyH.cons rfl (fun K hK => ?_) ?_
            · go_simp
              refine (overS s2 (some ⟨g2', 0, none⟩) S.n2 t2 13 (lst S.n2 S.L2) (nextL I u S n) _ (lst_len _ _).symm rfl (li_lst (HS.out.below HB.out).s2) HL.out (by have := R.out.l2; have := (StV.co_bd R.out.co).1; omega) hcap j2).mono ?_
              rintro e w7 ⟨g3, c3', rfl, hl3, hb3, hg3, hc3⟩
              have HC3 := Hid.mk hc3
              have HG3 := Hid.mk (Nat.lt_of_lt_of_le (blk_lt A3.out) hg3)
              have HO := Hid.mk hl3
              have HB := Hid.mk (below_then HB.out hb3)
              have HL := Hid.mk (HL.out.below hb3)
              have A0 := Hid.mk (blk_below A0.out hb3)
              have A2 := Hid.mk (blk_below A2.out hb3)
              have A3 := Hid.mk (blk_below A3.out hb3)
              (try have AM := Hid.mk (blk_below AM.out hb3))
              refine hK.out _ _ ?_ (fun hHeld => ?_)
              · exact ⟨cell_keep hb3 hHeld.1, cell_keep hb3 hHeld.2.1, cell_keep hb3 hHeld.2.2.1, cell_keep hb3 hHeld.2.2.2.1, cell_keep hb3 hHeld.2.2.2.2.1, cell_keep hb3 hHeld.2.2.2.2.2⟩
              clear hK K
              (try simp only [Act.put, List.setIfInBounds_toArray, List.set_cons_zero, List.set_cons_succ, List.getElem_toArray, List.getElem_cons_zero, List.getElem_cons_succ])
              refine wpAnyH_take (i := 22) (v := ?_) rfl (by kernel_rfl) (by kernel_rfl) (by kernel_rfl) (fun _ _ _ h => h) (Or.inl ⟨by rfl, ?_⟩) (by assumption) ?_
              rotate_left
              · intro w hSw; (try dsimp only at hSw); go_simp; (try with_reducible rfl)
              rotate_left
              simp only [Act.put, List.setIfInBounds_toArray, List.set_cons_zero, List.set_cons_succ, List.getElem_toArray, List.getElem_cons_zero, List.getElem_cons_succ]
              refine wpAnyH_ready (rs := [23]) (by kernel_rfl) (by simp) ?_
              refine AllReadyH.cons rfl (fun K hK => ?_) ?_
              · go_simp
                have hM := Hid.mk (blk_lt A3.out)
                have AM := Hid.mk (blk_of HB.out (.cells #[.slice none 0 0, .slice none 0 0, .int .i64 0, .int .i64 0, .int .i64 0, .int .i64 0, .int .i64 0] 83))
                have HB := Hid.mk (HB.out.alloc HB.out.size (.cells #[.slice none 0 0, .slice none 0 0, .int .i64 0, .int .i64 0, .int .i64 0, .int .i64 0, .int .i64 0] 83))
                have A0 := Hid.mk (blk_alloc A0.out (.cells #[.slice none 0 0, .slice none 0 0, .int .i64 0, .int .i64 0, .int .i64 0, .int .i64 0, .int .i64 0] 83))
                have A2 := Hid.mk (blk_alloc A2.out (.cells #[.slice none 0 0, .slice none 0 0, .int .i64 0, .int .i64 0, .int .i64 0, .int .i64 0, .int .i64 0] 83))
                have A3 := Hid.mk (blk_alloc A3.out (.cells #[.slice none 0 0, .slice none 0 0, .int .i64 0, .int .i64 0, .int .i64 0, .int .i64 0, .int .i64 0] 83))
                have HL := Hid.mk (HL.out.below ((Below.refl _ _).alloc (Nat.le_refl _) (.cells #[.slice none 0 0, .slice none 0 0, .int .i64 0, .int .i64 0, .int .i64 0, .int .i64 0, .int .i64 0] 83)))
                (try have HO := Hid.mk (HO.out.below ((Below.refl _ _).alloc (Nat.le_refl _) (.cells #[.slice none 0 0, .slice none 0 0, .int .i64 0, .int .i64 0, .int .i64 0, .int .i64 0, .int .i64 0] 83))))
                refine hK.out _ _ ?_ (fun hHeld => ?_)
                · exact ⟨cell_alloc' hHeld.1 _, cell_alloc' hHeld.2.1 _, cell_alloc' hHeld.2.2.1 _, cell_alloc' hHeld.2.2.2.1 _, cell_alloc' hHeld.2.2.2.2.1 _, cell_alloc' hHeld.2.2.2.2.2 _⟩
                clear hK K
                (try simp only [Act.put, List.setIfInBounds_toArray, List.set_cons_zero, List.set_cons_succ, List.getElem_toArray, List.getElem_cons_zero, List.getElem_cons_succ])
                refine wpAnyH_ready (rs := [24]) (by kernel_rfl) (by simp) ?_
                refine AllReadyH.cons rfl (fun K hK => ?_) ?_
                · rw [if_pos (by rfl)]
                  have hne := Hid.mk (li_ne (x := .slice none 0 0) HO.out (by simp [nextL]) AM.out (fun z => by simp))
                  have hne2 := Hid.mk (li_ne (x := .slice none 0 0) HL.out (by simp [nextL]) AM.out (fun z => by simp))
                  refine wp_store_row _ _ _ rfl _ #[.slice (some ⟨g3, 0, none⟩) S.n2 c3', .slice s3 S.n3 t3, .int .i64 (I.Q q).b, .int .i64 (I.V u).b, .int .i64 (q : Int), .int .i64 (I.nQ : Int), .int .i64 (-1)] rfl rfl _ _ AM.out infoMm rfl (by simp [Value.oneCell']) ?_
                  refine hK.out _ _ ?_ (fun hHeld => ?_)
                  · exact ⟨cell_srow hHeld.1 (by have z1 := hM.out; have z2 := hgv.out; first | omega | (have z3 := lt_drew z1; omega)), cell_srow hHeld.2.1 (by have z1 := hM.out; have z2 := hgv.out; first | omega | (have z3 := lt_drew z1; omega)), cell_srow hHeld.2.2.1 (by have z1 := hM.out; have z2 := hgv.out; first | omega | (have z3 := lt_drew z1; omega)), cell_srow hHeld.2.2.2.1 (by have z1 := hM.out; have z2 := hgv.out; first | omega | (have z3 := lt_drew z1; omega)), cell_srow hHeld.2.2.2.2.1 (by have z1 := hM.out; have z2 := hgv.out; first | omega | (have z3 := lt_drew z1; omega)), cell_srow hHeld.2.2.2.2.2 (by have z1 := hM.out; have z2 := hgv.out; first | omega | (have z3 := lt_drew z1; omega))⟩
                  clear hK K
                  (try simp only [Act.put, List.setIfInBounds_toArray, List.set_cons_zero, List.set_cons_succ, List.getElem_toArray, List.getElem_cons_zero, List.getElem_cons_succ])
                  refine wpAnyH_done (by kernel_rfl) ?_ _
                  go_wp2_with fail
                  go_meet
                  exact ⟨_, g3, c3', rfl, Hid.mk (by first | exact ⟨hM.out, HG3.out, HC3.out⟩ | exact ⟨lt_drew hM.out, HG3.out, HC3.out⟩), Hid.mk (srow_below HB.out (by have z1 := hM.out; have z2 := hgv.out; first | omega | (have z3 := lt_drew z1; omega)) _), Hid.mk (srow_self AM.out _), Hid.mk (srow_li HO.out hne.out _), Hid.mk (srow_li HL.out hne2.out _), Hid.mk (srow_other A0.out (by have z1 := hM.out; have z2 := hgv.out; first | omega | (have z3 := lt_drew z1; omega)) _), Hid.mk (srow_other A2.out (by have z1 := hM.out; have z2 := hgv.out; first | omega | (have z3 := lt_drew z1; omega)) _), Hid.mk (srow_other A3.out (by have z1 := hM.out; have z2 := hgv.out; first | omega | (have z3 := lt_drew z1; omega)) _)⟩
                exact AllReadyH.nil
              exact AllReadyH.nil
            refine AllReadyH.cons rfl (fun K hK => ?_) ?_
            · go_simp
              have hM := Hid.mk (blk_lt A3.out)
              have AM := Hid.mk (blk_of HB.out (.cells #[.slice none 0 0, .slice none 0 0, .int .i64 0, .int .i64 0, .int .i64 0, .int .i64 0, .int .i64 0] 83))
              have HB := Hid.mk (HB.out.alloc HB.out.size (.cells #[.slice none 0 0, .slice none 0 0, .int .i64 0, .int .i64 0, .int .i64 0, .int .i64 0, .int .i64 0] 83))
              have A0 := Hid.mk (blk_alloc A0.out (.cells #[.slice none 0 0, .slice none 0 0, .int .i64 0, .int .i64 0, .int .i64 0, .int .i64 0, .int .i64 0] 83))
              have A2 := Hid.mk (blk_alloc A2.out (.cells #[.slice none 0 0, .slice none 0 0, .int .i64 0, .int .i64 0, .int .i64 0, .int .i64 0, .int .i64 0] 83))
              have A3 := Hid.mk (blk_alloc A3.out (.cells #[.slice none 0 0, .slice none 0 0, .int .i64 0, .int .i64 0, .int .i64 0, .int .i64 0, .int .i64 0] 83))
              have HL := Hid.mk (HL.out.below ((Below.refl _ _).alloc (Nat.le_refl _) (.cells #[.slice none 0 0, .slice none 0 0, .int .i64 0, .int .i64 0, .int .i64 0, .int .i64 0, .int .i64 0] 83)))
              (try have HO := Hid.mk (HO.out.below ((Below.refl _ _).alloc (Nat.le_refl _) (.cells #[.slice none 0 0, .slice none 0 0, .int .i64 0, .int .i64 0, .int .i64 0, .int .i64 0, .int .i64 0] 83))))
              refine hK.out _ _ ?_ (fun hHeld => ?_)
              · exact ⟨cell_alloc' hHeld.1 _, cell_alloc' hHeld.2.1 _, cell_alloc' hHeld.2.2.1 _, cell_alloc' hHeld.2.2.2.1 _, cell_alloc' hHeld.2.2.2.2.1 _, cell_alloc' hHeld.2.2.2.2.2 _⟩
              clear hK K
              (try simp only [Act.put, List.setIfInBounds_toArray, List.set_cons_zero, List.set_cons_succ, List.getElem_toArray, List.getElem_cons_zero, List.getElem_cons_succ])
              refine wpAnyH_ready (rs := [3]) (by kernel_rfl) (by simp) ?_
              refine AllReadyH.cons rfl (fun K hK => ?_) ?_
              · go_simp
                refine (overS s2 (some ⟨g2', 0, none⟩) S.n2 t2 13 (lst S.n2 S.L2) (nextL I u S n) _ (lst_len _ _).symm rfl (li_lst (HS.out.below HB.out).s2) HL.out (by have := R.out.l2; have := (StV.co_bd R.out.co).1; omega) hcap j2).mono ?_
                rintro e w7 ⟨g3, c3', rfl, hl3, hb3, hg3, hc3⟩
                have HC3 := Hid.mk hc3
                have HG3 := Hid.mk (Nat.lt_of_lt_of_le (blk_lt A3.out) hg3)
                have HO := Hid.mk hl3
                have HB := Hid.mk (below_then HB.out hb3)
                have HL := Hid.mk (HL.out.below hb3)
                have A0 := Hid.mk (blk_below A0.out hb3)
                have A2 := Hid.mk (blk_below A2.out hb3)
                have A3 := Hid.mk (blk_below A3.out hb3)
                (try have AM := Hid.mk (blk_below AM.out hb3))
                refine hK.out _ _ ?_ (fun hHeld => ?_)
                · exact ⟨cell_keep hb3 hHeld.1, cell_keep hb3 hHeld.2.1, cell_keep hb3 hHeld.2.2.1, cell_keep hb3 hHeld.2.2.2.1, cell_keep hb3 hHeld.2.2.2.2.1, cell_keep hb3 hHeld.2.2.2.2.2⟩
                clear hK K
                (try simp only [Act.put, List.setIfInBounds_toArray, List.set_cons_zero, List.set_cons_succ, List.getElem_toArray, List.getElem_cons_zero, List.getElem_cons_succ])
                refine wpAnyH_take (i := 22) (v := ?_) rfl (by kernel_rfl) (by kernel_rfl) (by kernel_rfl) (fun _ _ _ h => h) (Or.inl ⟨by rfl, ?_⟩) (by assumption) ?_
                rotate_left
                · intro w hSw; (try dsimp only at hSw); go_simp; (try with_reducible rfl)
                rotate_left
                simp only [Act.put, List.setIfInBounds_toArray, List.set_cons_zero, List.set_cons_succ, List.getElem_toArray, List.getElem_cons_zero, List.getElem_cons_succ]
                refine wpAnyH_ready (rs := [24]) (by kernel_rfl) (by simp) ?_
                refine AllReadyH.cons rfl (fun K hK => ?_) ?_
                · rw [if_pos (by rfl)]
                  have hne := Hid.mk (li_ne (x := .slice none 0 0) HO.out (by simp [nextL]) AM.out (fun z => by simp))
                  have hne2 := Hid.mk (li_ne (x := .slice none 0 0) HL.out (by simp [nextL]) AM.out (fun z => by simp))
                  refine wp_store_row _ _ _ rfl _ #[.slice (some ⟨g3, 0, none⟩) S.n2 c3', .slice s3 S.n3 t3, .int .i64 (I.Q q).b, .int .i64 (I.V u).b, .int .i64 (q : Int), .int .i64 (I.nQ : Int), .int .i64 (-1)] rfl rfl _ _ AM.out infoMm rfl (by simp [Value.oneCell']) ?_
                  refine hK.out _ _ ?_ (fun hHeld => ?_)
                  · exact ⟨cell_srow hHeld.1 (by have z1 := hM.out; have z2 := hgv.out; first | omega | (have z3 := lt_drew z1; omega)), cell_srow hHeld.2.1 (by have z1 := hM.out; have z2 := hgv.out; first | omega | (have z3 := lt_drew z1; omega)), cell_srow hHeld.2.2.1 (by have z1 := hM.out; have z2 := hgv.out; first | omega | (have z3 := lt_drew z1; omega)), cell_srow hHeld.2.2.2.1 (by have z1 := hM.out; have z2 := hgv.out; first | omega | (have z3 := lt_drew z1; omega)), cell_srow hHeld.2.2.2.2.1 (by have z1 := hM.out; have z2 := hgv.out; first | omega | (have z3 := lt_drew z1; omega)), cell_srow hHeld.2.2.2.2.2 (by have z1 := hM.out; have z2 := hgv.out; first | omega | (have z3 := lt_drew z1; omega))⟩
                  clear hK K
                  (try simp only [Act.put, List.setIfInBounds_toArray, List.set_cons_zero, List.set_cons_succ, List.getElem_toArray, List.getElem_cons_zero, List.getElem_cons_succ])
                  refine wpAnyH_done (by kernel_rfl) ?_ _
                  go_wp2_with fail
                  go_meet
                  exact ⟨_, g3, c3', rfl, Hid.mk (by first | exact ⟨hM.out, HG3.out, HC3.out⟩ | exact ⟨lt_drew hM.out, HG3.out, HC3.out⟩), Hid.mk (srow_below HB.out (by have z1 := hM.out; have z2 := hgv.out; first | omega | (have z3 := lt_drew z1; omega)) _), Hid.mk (srow_self AM.out _), Hid.mk (srow_li HO.out hne.out _), Hid.mk (srow_li HL.out hne2.out _), Hid.mk (srow_other A0.out (by have z1 := hM.out; have z2 := hgv.out; first | omega | (have z3 := lt_drew z1; omega)) _), Hid.mk (srow_other A2.out (by have z1 := hM.out; have z2 := hgv.out; first | omega | (have z3 := lt_drew z1; omega)) _), Hid.mk (srow_other A3.out (by have z1 := hM.out; have z2 := hgv.out; first | omega | (have z3 := lt_drew z1; omega)) _)⟩
                exact AllReadyH.nil
              exact AllReadyH.nil
            exact AllReadyH.nil
          case rest =>
            obtain ⟨M, g3, c3', rfl, hM, HB, AM, HO, HL, A0, A2, A3⟩ := hcut
            obtain ⟨kR0, kR1, kS0, kS1⟩ := StV.co_bd R.out.co
            have q0 := blk_cell A0.out 3
            have m0' := blk_cell AM.out 0
            have m1 := blk_cell AM.out 1
            have m2 := blk_cell AM.out 2
            have m3 := blk_cell AM.out 3
            have m4 := blk_cell AM.out 4
            have m5 := blk_cell AM.out 5
            have m6 := blk_cell AM.out 6
            simp only [List.getElem?_toArray, List.getElem?_cons_zero, List.getElem?_cons_succ] at q0 m0' m1 m2 m3 m4 m5 m6
            have hb2ok : Hid (ValC.okBlk C.R C.S C.n2 C.B2 = true) := by
              have := R.out.co
              unfold ValC.okCo at this
              simp only [Bool.and_eq_true] at this
              exact this.1.2
            have ln2 : Hid (S.n2 = (nextL I u S n ++ (lst S.n2 S.L2).drop 13).length) := by
              have := R.out.l2
              unfold Hid
              rw [List.length_append, List.length_drop, lst_len]
              simp only [nextL, List.length_cons, List.length_nil]
              omega
            have hE : EnOk (enStop I u q) := by rw [← enStop_eq HST.out HQ.out]; exact enAt_ok R.out.val R.out.hv n
            have hMst : Hid (Mst wc (enStop I u q) C.B2 C.n2 a2 C.R C.S (some ⟨g3, 0, none⟩) s3 S.n2 S.n3 (nextL I u S n ++ (lst S.n2 S.L2).drop 13) (lst S.n3 S.L3)) := by
              have hm := StV.mul_bd kS0 kS1 q2
              have e2 := R.out.l2
              have e3 := R.out.l3
              exact ⟨HO.out, li_lst (HS.out.below HB.out).s3, ln2.out, (lst_len _ _).symm, by omega, by omega, bd_over (next_bd R.out.val R.out.hv R.out.d0 R.out.d1 m0 g2 R.out.p0 (by have := R.out.p1; omega)) (lst_bd R.out.a2), lst_bd R.out.a3, e2, by simpa [enStop] using e3, kS1, hE, (HC.out.below HB.out).b2, (blk_ok hb2ok.out).1⟩
            go_wp2_with fail
            refine (execS (enStop I u q) C.B2 C.n2 a2 c2 C.R C.S S.n2 S.n3 (blk_ok hb2ok.out).2 C.n2 0 _ _ _ _ _ _ _ (by omega) hMst.out).mono ?_
            rename_i hKK
            rintro e w8 ⟨ar', al', cr', cs', rfl, hr', hs', nwr, nws, hb4, hcx⟩
            have HCX := Hid.mk (hcx hM.out.2.2)
            clear hcx
            refine hKK _ _ ?_
            clear hKK
            have HB4 := Hid.mk (below_then HB.out hb4)
            have AM4 := Hid.mk (blk_below AM.out hb4)
            have A24 := Hid.mk (blk_below A2.out hb4)
            have A34 := Hid.mk (blk_below A3.out hb4)
            have HL4 := Hid.mk (HL.out.below hb4)
            have hlen := exec_len (E := enStop I u q) (B := C.B2) (n := C.n2) C.n2 0 (nextL I u S n ++ (lst S.n2 S.L2).drop 13) (lst S.n3 S.L3)
            generalize hout : (exec (enStop I u q) C.B2 C.n2 C.n2 0 (nextL I u S n ++ (lst S.n2 S.L2).drop 13) (lst S.n3 S.L3)) = out at hr' hs' hlen ⊢
            have HOUT : Hid (stepOut C I u S n = out) := by unfold Hid stepOut; rw [enStop_eq HST.out HQ.out]; exact hout
            have hMlt := blk_lt AM.out
            have hg3M := li_ne (x := .slice (some ⟨g3, 0, none⟩) S.n2 c3') HO.out (by simp [nextL]) AM.out (fun z => by simp)
            have hg2M := Hid.mk (li_ne (x := .slice (some ⟨g3, 0, none⟩) S.n2 c3') HL.out (by simp [nextL]) AM.out (fun z => by simp))
            have LR : Hid (Li w8 ar' out.1 ∧ out.1.length = S.n2 ∧ ∀ b, ar' = some b → w.heap.size + 1 + 1 + 1 < b.block ∧ b.block ≠ M) := by
              refine ⟨hr', by rw [hlen.1, ← ln2.out], fun b hb => ?_⟩
              have z := hM.out
              rcases nwr with e | e
              · rw [e] at hb; cases hb; exact ⟨z.2.1, hg3M⟩
              · have := e b hb; have z1 := blk_lt A3.out; exact ⟨by omega, by omega⟩
            have LS : Hid (Li w8 al' out.2.1 ∧ out.2.1.length = S.n3 ∧ (S.n3 = 0 ∨ ∀ b, al' = some b → b.block ≠ M)) := by
              refine ⟨hs', by rw [hlen.2, lst_len], ?_⟩
              by_cases hz : S.n3 = 0
              · exact Or.inl hz
              · refine Or.inr fun b hb => ?_
                rcases nws with e | e
                · rw [e] at hb
                  have z := li_lt (li_lst HS.out.s3) (by rw [lst_len]; omega) b hb
                  have z2 := hM.out
                  omega
                · have := e b hb; omega
            clear hb4 q0 m0' m1 m2 m3 m4 m5 m6 AM HO HL A0 A2 A3 hMst hr' hs' nwr nws hlen hout hE
            refine wpList_store_row rfl _ _ _ rfl M #[.slice ar' S.n2 cr', .slice al' S.n3 cs', .int .i64 (enStop I u q).tags, .int .i64 (enStop I u q).skills, .int .i64 (enStop I u q).q, .int .i64 ((enStop I u q).nQ : Int), .int .i64 out.2.2] rfl rfl _ _ AM4.out infoMm rfl (by simp [Value.oneCell']) ?_
            obtain ⟨Y, hY⟩ : ∃ Y, Y = w8.setRow M #[.slice ar' S.n2 cr', .slice al' S.n3 cs', .int .i64 (enStop I u q).tags, .int .i64 (enStop I u q).skills, .int .i64 (enStop I u q).q, .int .i64 ((enStop I u q).nQ : Int), .int .i64 out.2.2] := ⟨_, rfl⟩
            rw [← hY]
            have BY : Hid (Below w.heap.size w Y) := by unfold Hid; rw [hY]; exact srow_below HB4.out (by have := hM.out; omega) _
            have R6 : Hid (Y.heap[M]? = some (.cells #[.slice ar' S.n2 cr', .slice al' S.n3 cs', .int .i64 (enStop I u q).tags, .int .i64 (enStop I u q).skills, .int .i64 (enStop I u q).q, .int .i64 ((enStop I u q).nQ : Int), .int .i64 out.2.2] 83)) := by unfold Hid; rw [hY]; exact srow_self AM4.out _
            have Y2 : Hid (Y.heap[w.heap.size + 1 + 1]? = some (.cells #[.int .i64 S.p, .int .i64 S.r, .int .i64 S.d, .int .i64 S.t, .int .i64 S.s, .int .i64 S.l, .slice (some ⟨gs, os, none⟩) S.n1 t1, .slice s2 S.n2 t2, .slice s3 S.n3 t3] 34)) := by unfold Hid; rw [hY]; exact srow_other A24.out (by have := hM.out; omega) _
            have Y3 : Hid (Y.heap[w.heap.size + 1 + 1 + 1]? = some (.cells #[.int .i64 0, .int .i64 0, .int .i64 0, .int .i64 0, .int .i64 0, .int .i64 0, .slice none 0 0, .slice none 0 0, .slice none 0 0] 34)) := by unfold Hid; rw [hY]; exact srow_other A34.out (by have := hM.out; omega) _
            have LR' : Hid (Li Y ar' out.1 ∧ out.1.length = S.n2 ∧ ∀ b, ar' = some b → w.heap.size + 1 + 1 + 1 < b.block ∧ b.block ≠ M) := by
              have z := LR.out
              unfold Hid
              rw [hY]
              exact ⟨li_far z.1 (Or.inr fun b hb => (z.2.2 b hb).2) _, z.2.1, z.2.2⟩
            have LS' : Hid (Li Y al' out.2.1 ∧ out.2.1.length = S.n3) := by
              have z := LS.out
              unfold Hid
              rw [hY]
              exact ⟨li_far z.1 (z.2.2.imp (fun h => by rw [z.2.1]; exact h) fun h b hb => h b hb) _, z.2.1⟩
            have HL' : Hid (Li Y (some ⟨g2', 0, none⟩) (nextL I u S n)) := by
              unfold Hid
              rw [hY]
              exact srow_li HL4.out hg2M.out _
            clear hY HB4 AM4 A24 A34 LR LS HL4
            have y0 := blk_cell Y2.out 0
            have n6 := blk_cell R6.out 6
            simp only [List.getElem?_toArray, List.getElem?_cons_zero, List.getElem?_cons_succ] at y0 n6
            by_cases hl : 0 ≤ out.2.2
            · have HF : Hid (stepB C I (u : Int) S n = bareS (S.p + 1) out.2.2) := by
                unfold Hid stepB
                rw [if_neg n1.out, if_neg (by have := n2.out; omega), if_neg n3.out, if_neg n4.out, Int.toNat_natCast, HOUT.out, if_pos hl]
              have e4 : decide (0 ≤ out.2.2) = true := by simp [hl]
              clear hl
              go_wp2_with fail
              refine (failedS (S.p + 1) out.2.2 _).mono ?_
              rename_i hKK
              rintro e wz ⟨rfl, hbz⟩
              refine hKK _ _ ?_
              clear hKK
              have AZ := Hid.mk (blk_below Y3.out hbz)
              have BZ := Hid.mk (below_then BY.out hbz)
              clear hbz
              refine wpList_store_row rfl _ _ _ rfl (w.heap.size + 1 + 1 + 1) #[.int .i64 (S.p + 1), .int .i64 out.2.2, .int .i64 0, .int .i64 0, .int .i64 0, .int .i64 0, .slice none 0 0, .slice none 0 0, .slice none 0 0] rfl rfl _ _ AZ.out infoSt rfl (by simp [Value.oneCell']) ?_
              go_wp2
              refine bodyPost_ret (results_cell_row Tryz.results21 _ _ (w.heap.size + 1 + 1 + 1) _ _ _ _ (by simp [Act.put]) (row_self AZ.out _) Tryz.underlying34 rfl infoSt) rfl ?_
              exact ⟨none, none, none, 0, 0, 0, by rw [HF.out]; rfl, by rw [HF.out]; exact bare_at _ _ _, row_below BZ.out (by omega) _, by rw [HF.out]; exact bare_fre _ _ _, by rw [HF.out]; exact Nat.le_refl _⟩
            · have HF : Hid (stepB C I (u : Int) S n = goneS C I u S n) := by
                unfold Hid stepB
                rw [if_neg n1.out, if_neg (by have := n2.out; omega), if_neg n3.out, if_neg n4.out, Int.toNat_natCast, HOUT.out, if_neg hl]
              have e4 : decide (0 ≤ out.2.2) = false := by simp [hl]
              clear hl
              have tqw : IntKind.i64.wrap (tq + 1) = tq + 1 := by rw [IntKind.wrap_i64]; have z := hdub.out; omega
              have y6 := blk_cell Y2.out 6
              have r0 := blk_cell R6.out 0
              have r1 := blk_cell R6.out 1
              simp only [List.getElem?_toArray, List.getElem?_cons_zero, List.getElem?_cons_succ] at y6 r0 r1
              have l0 : Y.cell? ⟨g2', 0, none⟩ = some (.int .i64 ((nextL I u S n).getD 0 0)) := by
                obtain ⟨b, o, e, hc⟩ := HL'.out.at (i := 0) (by simp [nextL]); cases e; exact hc
              have l3 : Y.cell? ⟨g2', 3, none⟩ = some (.int .i64 ((nextL I u S n).getD 3 0)) := by
                obtain ⟨b, o, e, hc⟩ := HL'.out.at (i := 3) (by simp [nextL]); cases e; exact hc
              have l4 : Y.cell? ⟨g2', 4, none⟩ = some (.int .i64 ((nextL I u S n).getD 4 0)) := by
                obtain ⟨b, o, e, hc⟩ := HL'.out.at (i := 4) (by simp [nextL]); cases e; exact hc
              generalize hv0 : (nextL I u S n).getD 0 0 = V0 at l0
              generalize hv3 : (nextL I u S n).getD 3 0 = V3 at l3
              generalize hv4 : (nextL I u S n).getD 4 0 = V4 at l4
              have HVV := Hid.mk (And.intro hv0 (And.intro hv3 hv4))
              clear hv0 hv3 hv4
              have lg2 : Hid (g2' < Y.heap.size) := lt_of_cell l0
              go_upto_region 16 with fail
              have HSS := Hid.mk (And.intro y0 (And.intro y6 (And.intro l0 (And.intro l3 (And.intro l4 (And.intro r0 r1))))))
              clear y0 y6 l0 l3 l4 r0 r1 n6
              go_cut [] (fun wx => ∃ (g4 c4 c5 : Nat) (a5 : Option Addr), Hid (Below w.heap.size w wx) ∧ Hid (wx.heap[w.heap.size + 1 + 1 + 1]? = some (.cells #[.int .i64 (S.p + 1), .int .i64 (-1), .int .i64 n, .int .i64 V0, .int .i64 V3, .int .i64 V4, .slice (some ⟨g4, 0, none⟩) S.n1 c4, .slice ar' S.n2 cr', .slice a5 S.n3 c5] 34)) ∧ Hid (Li wx (some ⟨g4, 0, none⟩) ((lst S.n1 S.L1).set q (tq + 1))) ∧ Hid (Li wx ar' out.1 ∧ out.1.length = S.n2) ∧ Hid (Li wx a5 out.2.1 ∧ out.2.1.length = S.n3) ∧ Hid (w.heap.size + 1 + 1 + 1 < g4 ∧ (∀ b, ar' = some b → w.heap.size + 1 + 1 + 1 < b.block) ∧ ∀ x, a5 = some x → w.heap.size + 1 + 1 + 1 < x.block))
              case first =>
                have BY := Hid.mk BY.out.drew
                have Y3 := Hid.mk (blk_drew Y3.out)
                have R6 := Hid.mk (blk_drew R6.out)
                have LR' := Hid.mk (And.intro (LR'.out.1.below (Below.refl _ _).drew) LR'.out.2)
                have LS' := Hid.mk (And.intro (LS'.out.1.below (Below.refl _ _).drew) LS'.out.2)
                have lg2 : Hid (g2' < Y.drew.heap.size) := lg2
                refine wp_region_held_drew (S := (fun w' => w'.cell? ⟨w.heap.size + 1 + 1, 0, none⟩ = some (.int .i64 S.p) ∧ w'.cell? ⟨w.heap.size + 1 + 1, 6, none⟩ = some (.slice (some ⟨gs, os, none⟩) S.n1 t1) ∧ w'.cell? ⟨g2', 0, none⟩ = some (.int .i64 V0) ∧ w'.cell? ⟨g2', 3, none⟩ = some (.int .i64 V3) ∧ w'.cell? ⟨g2', 4, none⟩ = some (.int .i64 V4) ∧ w'.cell? ⟨M, 0, none⟩ = some (.slice ar' S.n2 cr') ∧ w'.cell? ⟨M, 1, none⟩ = some (.slice al' S.n3 cs'))) (by kernel_rfl) ?_ (fun hHeld => ?_)
                · exact HSS.out
                refine wpAnyH_take (i := 0) (v := ?_) rfl (by kernel_rfl) (by kernel_rfl) (by kernel_rfl) (fun _ _ _ h => h) (Or.inl ⟨by rfl, ?_⟩) (by assumption) ?_
                rotate_left
                · intro w hSw; (try dsimp only at hSw); go_simp; (try with_reducible rfl)
                rotate_left
                simp only [Act.put, List.setIfInBounds_toArray, List.set_cons_zero, List.set_cons_succ, List.getElem_toArray, List.getElem_cons_zero, List.getElem_cons_succ]
                refine wpAnyH_take (i := 1) (v := ?_) rfl (by kernel_rfl) (by kernel_rfl) (by kernel_rfl) (fun _ _ _ h => h) (Or.inl ⟨by rfl, ?_⟩) (by assumption) ?_
                rotate_left
                · intro w hSw; (try dsimp only at hSw); go_simp; (try with_reducible rfl)
                rotate_left
                simp only [Act.put, List.setIfInBounds_toArray, List.set_cons_zero, List.set_cons_succ, List.getElem_toArray, List.getElem_cons_zero, List.getElem_cons_succ]
                refine wpAnyH_take (i := 2) (v := ?_) rfl (by kernel_rfl) (by kernel_rfl) (by kernel_rfl) (fun _ _ _ h => h) (Or.inl ⟨by rfl, ?_⟩) (by assumption) ?_
                rotate_left
                · intro w hSw; (try dsimp only at hSw); go_simp; (try with_reducible rfl)
                rotate_left
                simp only [Act.put, List.setIfInBounds_toArray, List.set_cons_zero, List.set_cons_succ, List.getElem_toArray, List.getElem_cons_zero, List.getElem_cons_succ]
                refine wpAnyH_take (i := 3) (v := ?_) rfl (by kernel_rfl) (by kernel_rfl) (by kernel_rfl) (fun _ _ _ h => h) (Or.inl ⟨by rfl, ?_⟩) (by assumption) ?_
                rotate_left
                · intro w hSw; (try dsimp only at hSw); go_simp; (try with_reducible rfl)
                rotate_left
                simp only [Act.put, List.setIfInBounds_toArray, List.set_cons_zero, List.set_cons_succ, List.getElem_toArray, List.getElem_cons_zero, List.getElem_cons_succ]
                refine wpAnyH_take (i := 4) (v := ?_) rfl (by kernel_rfl) (by kernel_rfl) (by kernel_rfl) (fun _ _ _ h => h) (Or.inl ⟨by rfl, ?_⟩) (by assumption) ?_
                rotate_left
                · intro w hSw; (try dsimp only at hSw); go_simp; (try with_reducible rfl)
                rotate_left
                simp only [Act.put, List.setIfInBounds_toArray, List.set_cons_zero, List.set_cons_succ, List.getElem_toArray, List.getElem_cons_zero, List.getElem_cons_succ]
                refine wpAnyH_take (i := 5) (v := ?_) rfl (by kernel_rfl) (by kernel_rfl) (by kernel_rfl) (fun _ _ _ h => h) (Or.inl ⟨by rfl, ?_⟩) (by assumption) ?_
                rotate_left
                · intro w hSw; (try dsimp only at hSw); go_simp; (try with_reducible rfl)
                rotate_left
                simp only [Act.put, List.setIfInBounds_toArray, List.set_cons_zero, List.set_cons_succ, List.getElem_toArray, List.getElem_cons_zero, List.getElem_cons_succ]
                refine wpAnyH_take (i := 6) (v := ?_) rfl (by kernel_rfl) (by kernel_rfl) (by kernel_rfl) (fun _ _ _ h => h) (Or.inl ⟨by rfl, ?_⟩) (by assumption) ?_
                rotate_left
                · intro w hSw; (try dsimp only at hSw); go_simp; (try with_reducible rfl)
                rotate_left
                simp only [Act.put, List.setIfInBounds_toArray, List.set_cons_zero, List.set_cons_succ, List.getElem_toArray, List.getElem_cons_zero, List.getElem_cons_succ]
                refine wpAnyH_take (i := 7) (v := ?_) rfl (by kernel_rfl) (by kernel_rfl) (by kernel_rfl) (fun _ _ _ h => h) (Or.inl ⟨by rfl, ?_⟩) (by assumption) ?_
                rotate_left
                · intro w hSw; (try dsimp only at hSw); go_simp; (try with_reducible rfl)
                rotate_left
                simp only [Act.put, List.setIfInBounds_toArray, List.set_cons_zero, List.set_cons_succ, List.getElem_toArray, List.getElem_cons_zero, List.getElem_cons_succ]
                refine wpAnyH_take (i := 8) (v := ?_) rfl (by kernel_rfl) (by kernel_rfl) (by kernel_rfl) (fun _ _ _ h => h) (Or.inl ⟨by rfl, ?_⟩) (by assumption) ?_
                rotate_left
                · intro w hSw; (try dsimp only at hSw); go_simp; (try with_reducible rfl)
                rotate_left
                simp only [Act.put, List.setIfInBounds_toArray, List.set_cons_zero, List.set_cons_succ, List.getElem_toArray, List.getElem_cons_zero, List.getElem_cons_succ]
                refine wpAnyH_take (i := 9) (v := ?_) rfl (by kernel_rfl) (by kernel_rfl) (by kernel_rfl) (fun _ _ _ h => h) (Or.inl ⟨by rfl, ?_⟩) (by assumption) ?_
                rotate_left
                · intro w hSw; (try dsimp only at hSw); go_simp; (try with_reducible rfl)
                rotate_left
                simp only [Act.put, List.setIfInBounds_toArray, List.set_cons_zero, List.set_cons_succ, List.getElem_toArray, List.getElem_cons_zero, List.getElem_cons_succ]
                refine wpAnyH_take (i := 10) (v := ?_) rfl (by kernel_rfl) (by kernel_rfl) (by kernel_rfl) (fun _ _ _ h => h) (Or.inl ⟨by rfl, ?_⟩) (by assumption) ?_
                rotate_left
                · intro w hSw; (try dsimp only at hSw); go_simp; (try with_reducible rfl)
                rotate_left
                simp only [Act.put, List.setIfInBounds_toArray, List.set_cons_zero, List.set_cons_succ, List.getElem_toArray, List.getElem_cons_zero, List.getElem_cons_succ]
                refine wpAnyH_take (i := 11) (v := ?_) rfl (by kernel_rfl) (by kernel_rfl) (by kernel_rfl) (fun _ _ _ h => h) (Or.inl ⟨by rfl, ?_⟩) (by assumption) ?_
                rotate_left
                · intro w hSw; (try dsimp only at hSw); go_simp; (try with_reducible rfl)
                rotate_left
                simp only [Act.put, List.setIfInBounds_toArray, List.set_cons_zero, List.set_cons_succ, List.getElem_toArray, List.getElem_cons_zero, List.getElem_cons_succ]
                refine wpAnyH_take (i := 12) (v := ?_) rfl (by kernel_rfl) (by kernel_rfl) (by kernel_rfl) (fun _ _ _ h => h) (Or.inl ⟨by rfl, ?_⟩) (by assumption) ?_
                rotate_left
                · intro w hSw; (try dsimp only at hSw); go_simp; (try with_reducible rfl)
                rotate_left
                simp only [Act.put, List.setIfInBounds_toArray, List.set_cons_zero, List.set_cons_succ, List.getElem_toArray, List.getElem_cons_zero, List.getElem_cons_succ]
                refine wpAnyH_take (i := 13) (v := ?_) rfl (by kernel_rfl) (by kernel_rfl) (by kernel_rfl) (fun _ _ _ h => h) (Or.inl ⟨by rfl, ?_⟩) (by assumption) ?_
                rotate_left
                · intro w hSw; (try dsimp only at hSw); go_simp; (try with_reducible rfl)
                rotate_left
                simp only [Act.put, List.setIfInBounds_toArray, List.set_cons_zero, List.set_cons_succ, List.getElem_toArray, List.getElem_cons_zero, List.getElem_cons_succ]
                refine wpAnyH_take (i := 14) (v := ?_) rfl (by kernel_rfl) (by kernel_rfl) (by kernel_rfl) (fun _ _ _ h => h) (Or.inl ⟨by rfl, ?_⟩) (by assumption) ?_
                rotate_left
                · intro w hSw; (try dsimp only at hSw); go_simp; (try with_reducible rfl)
                rotate_left
                simp only [Act.put, List.setIfInBounds_toArray, List.set_cons_zero, List.set_cons_succ, List.getElem_toArray, List.getElem_cons_zero, List.getElem_cons_succ]
                refine wpAnyH_take (i := 15) (v := ?_) rfl (by kernel_rfl) (by kernel_rfl) (by kernel_rfl) (fun _ _ _ h => h) (Or.inl ⟨by rfl, ?_⟩) (by assumption) ?_
                rotate_left
                · intro w hSw; (try dsimp only at hSw); go_simp; (try with_reducible rfl)
                rotate_left
                simp only [Act.put, List.setIfInBounds_toArray, List.set_cons_zero, List.set_cons_succ, List.getElem_toArray, List.getElem_cons_zero, List.getElem_cons_succ]
                refine wpAnyH_take (i := 16) (v := ?_) rfl (by kernel_rfl) (by kernel_rfl) (by kernel_rfl) (fun _ _ _ h => h) (Or.inl ⟨by rfl, ?_⟩) (by assumption) ?_
                rotate_left
                · intro w hSw; (try dsimp only at hSw); go_simp; (try with_reducible rfl)
                rotate_left
                simp only [Act.put, List.setIfInBounds_toArray, List.set_cons_zero, List.set_cons_succ, List.getElem_toArray, List.getElem_cons_zero, List.getElem_cons_succ]
                refine wpAnyH_take (i := 17) (v := ?_) rfl (by kernel_rfl) (by kernel_rfl) (by kernel_rfl) (fun _ _ _ h => h) (Or.inl ⟨by rfl, ?_⟩) (by assumption) ?_
                rotate_left
                · intro w hSw; (try dsimp only at hSw); go_simp; (try with_reducible rfl)
                rotate_left
                simp only [Act.put, List.setIfInBounds_toArray, List.set_cons_zero, List.set_cons_succ, List.getElem_toArray, List.getElem_cons_zero, List.getElem_cons_succ]
                refine wpAnyH_take (i := 19) (v := ?_) rfl (by kernel_rfl) (by kernel_rfl) (by kernel_rfl) (fun _ _ _ h => h) (Or.inl ⟨by rfl, ?_⟩) (by assumption) ?_
                rotate_left
                · intro w hSw; (try dsimp only at hSw); go_simp; (try with_reducible rfl)
                rotate_left
                simp only [Act.put, List.setIfInBounds_toArray, List.set_cons_zero, List.set_cons_succ, List.getElem_toArray, List.getElem_cons_zero, List.getElem_cons_succ]
                refine wpAnyH_take (i := 20) (v := ?_) rfl (by kernel_rfl) (by kernel_rfl) (by kernel_rfl) (fun _ _ _ h => h) (Or.inl ⟨by rfl, ?_⟩) (by assumption) ?_
                rotate_left
                · intro w hSw; (try dsimp only at hSw); go_simp; (try with_reducible rfl)
                rotate_left
                simp only [Act.put, List.setIfInBounds_toArray, List.set_cons_zero, List.set_cons_succ, List.getElem_toArray, List.getElem_cons_zero, List.getElem_cons_succ]
                refine wpAnyH_take (i := 22) (v := ?_) rfl (by kernel_rfl) (by kernel_rfl) (by kernel_rfl) (fun _ _ _ h => h) (Or.inl ⟨by rfl, ?_⟩) (by assumption) ?_
                rotate_left
                · intro w hSw; (try dsimp only at hSw); go_simp; (try with_reducible rfl)
                rotate_left
                simp only [Act.put, List.setIfInBounds_toArray, List.set_cons_zero, List.set_cons_succ, List.getElem_toArray, List.getElem_cons_zero, List.getElem_cons_succ]
                refine wpAnyH_take (i := 23) (v := ?_) rfl (by kernel_rfl) (by kernel_rfl) (by kernel_rfl) (fun _ _ _ h => h) (Or.inl ⟨by rfl, ?_⟩) (by assumption) ?_
                rotate_left
                · intro w hSw; (try dsimp only at hSw); go_simp; (try with_reducible rfl)
                rotate_left
                simp only [Act.put, List.setIfInBounds_toArray, List.set_cons_zero, List.set_cons_succ, List.getElem_toArray, List.getElem_cons_zero, List.getElem_cons_succ]
                refine wpAnyH_ready (rs := [18, 21]) (by kernel_rfl) (by simp) ?_
                refine AllReadyH.cons rfl (fun K hK => ?_) ?_
                · go_simp
                  refine (setS (some ⟨gs, os, none⟩) S.n1 t1 (lst S.n1 S.L1) q (tq + 1) _ (lst_len _ _).symm (li_lst (HS.out.below BY.out).s1) hqs j1).mono ?_
                  rintro e w9 ⟨g4, c4, rfl, hl4, hb, hg4, -⟩
                  have H4 := Hid.mk (And.intro hl4 (Nat.lt_of_lt_of_le (blk_lt Y3.out) hg4))
                  (try have q4 := Hid.mk (Nat.ne_of_gt (Nat.lt_of_lt_of_le (blk_lt AB.out) hg4)))
                  have BY := Hid.mk (below_then BY.out hb)
                  have Y3 := Hid.mk (blk_below Y3.out hb)
                  have R6 := Hid.mk (blk_below R6.out hb)
                  have LR' := Hid.mk (And.intro (LR'.out.1.below hb) LR'.out.2)
                  have LS' := Hid.mk (And.intro (LS'.out.1.below hb) LS'.out.2)
                  have lg2 := Hid.mk (Nat.lt_of_lt_of_le lg2.out hb.size)
                  (try have AB := Hid.mk (blk_below AB.out hb))
                  refine hK.out _ _ ?_ (fun hHeld => ?_)
                  · exact ⟨cell_keep hb hHeld.1, cell_keep hb hHeld.2.1, cell_keep hb hHeld.2.2.1, cell_keep hb hHeld.2.2.2.1, cell_keep hb hHeld.2.2.2.2.1, cell_keep hb hHeld.2.2.2.2.2.1, cell_keep hb hHeld.2.2.2.2.2.2⟩
                  clear hK K
                  (try simp only [Act.put, List.setIfInBounds_toArray, List.set_cons_zero, List.set_cons_succ, List.getElem_toArray, List.getElem_cons_zero, List.getElem_cons_succ])
                  refine wpAnyH_ready (rs := [21]) (by kernel_rfl) (by simp) ?_
                  refine AllReadyH.cons rfl (fun K hK => ?_) ?_
                  · go_simp
                    have AB := Hid.mk (blk_of BY.out (.cells #[] 2))
                    have q3 := Hid.mk (blk_lt Y3.out)
                    have qM := Hid.mk (blk_lt R6.out)
                    have qg := lg2
                    have qr := Hid.mk (li_lt LR'.out.1 (by rw [LR'.out.2.1]; have := R.out.l2; omega))
                    (try have q4 := Hid.mk (Nat.ne_of_lt (li_lt H4.out.1 (by rw [List.length_set, lst_len]; omega) _ rfl)))
                    have lg2 := Hid.mk (Nat.lt_of_lt_of_le lg2.out (((Below.refl _ _).alloc (Nat.le_refl _) (.cells #[] 2)).size))
                    have BY := Hid.mk (BY.out.alloc BY.out.size (.cells #[] 2))
                    have Y3 := Hid.mk (blk_alloc Y3.out (.cells #[] 2))
                    have R6 := Hid.mk (blk_alloc R6.out (.cells #[] 2))
                    have LR' := Hid.mk (And.intro (LR'.out.1.below ((Below.refl _ _).alloc (Nat.le_refl _) (.cells #[] 2))) LR'.out.2)
                    have LS' := Hid.mk (And.intro (LS'.out.1.below ((Below.refl _ _).alloc (Nat.le_refl _) (.cells #[] 2))) LS'.out.2)
                    (try have H4 := Hid.mk (And.intro (H4.out.1.below ((Below.refl _ _).alloc (Nat.le_refl _) (.cells #[] 2))) H4.out.2))
                    refine hK.out _ _ ?_ (fun hHeld => ?_)
                    · exact ⟨cell_alloc' hHeld.1 _, cell_alloc' hHeld.2.1 _, cell_alloc' hHeld.2.2.1 _, cell_alloc' hHeld.2.2.2.1 _, cell_alloc' hHeld.2.2.2.2.1 _, cell_alloc' hHeld.2.2.2.2.2.1 _, cell_alloc' hHeld.2.2.2.2.2.2 _⟩
                    clear hK K
                    (try simp only [Act.put, List.setIfInBounds_toArray, List.set_cons_zero, List.set_cons_succ, List.getElem_toArray, List.getElem_cons_zero, List.getElem_cons_succ])
                    refine wpAnyH_ready (rs := [24]) (by kernel_rfl) (by simp) ?_
                    refine AllReadyH.cons rfl (fun K hK => ?_) ?_
                    · rw [if_pos (by rfl)]
                      refine wp_clone _ _ rfl _ AB.out rfl al' S.n3 cs' out.2.1 rfl LS'.out.1 LS'.out.2.symm j3 ?_
                      intro a5 c5 w10 hc5 hl5 ha5 hoth hbel
                      have BY := Hid.mk (hbel _ _ BY.out (by have z1 := q3.out; have z2 := qM.out; have z3 := qg.out; first | omega | (simp only [World.drew] at z1 z2 z3 ⊢; omega)))
                      have Y3 := Hid.mk ((hoth _ (blk_lt Y3.out) (by have z1 := q3.out; have z2 := qM.out; have z3 := qg.out; first | omega | (simp only [World.drew] at z1 z2 z3 ⊢; omega))).trans Y3.out)
                      have LR' := Hid.mk (And.intro (li_oth LR'.out.1 hoth (Or.inr fun x hx => Nat.ne_of_lt (qr.out x hx))) LR'.out.2)
                      have H4 := Hid.mk (And.intro (li_oth H4.out.1 hoth (Or.inr fun x hx => by cases hx; exact q4.out)) H4.out.2)
                      have L5 : Hid (Li w10 a5 out.2.1 ∧ out.2.1.length = S.n3 ∧ ∀ x, a5 = some x → w.heap.size + 1 + 1 + 1 < x.block) := Hid.mk ⟨hl5, LS'.out.2, fun x hx => Nat.lt_of_lt_of_le q3.out (ha5 x hx)⟩
                      refine hK.out _ _ ?_ (fun hHeld => ?_)
                      · exact ⟨cell_oth hHeld.1 hoth (by have z1 := q3.out; have z2 := qM.out; have z3 := qg.out; first | omega | (simp only [World.drew] at z1 z2 z3 ⊢; omega)), cell_oth hHeld.2.1 hoth (by have z1 := q3.out; have z2 := qM.out; have z3 := qg.out; first | omega | (simp only [World.drew] at z1 z2 z3 ⊢; omega)), cell_oth hHeld.2.2.1 hoth (by have z1 := q3.out; have z2 := qM.out; have z3 := qg.out; first | omega | (simp only [World.drew] at z1 z2 z3 ⊢; omega)), cell_oth hHeld.2.2.2.1 hoth (by have z1 := q3.out; have z2 := qM.out; have z3 := qg.out; first | omega | (simp only [World.drew] at z1 z2 z3 ⊢; omega)), cell_oth hHeld.2.2.2.2.1 hoth (by have z1 := q3.out; have z2 := qM.out; have z3 := qg.out; first | omega | (simp only [World.drew] at z1 z2 z3 ⊢; omega)), cell_oth hHeld.2.2.2.2.2.1 hoth (by have z1 := q3.out; have z2 := qM.out; have z3 := qg.out; first | omega | (simp only [World.drew] at z1 z2 z3 ⊢; omega)), cell_oth hHeld.2.2.2.2.2.2 hoth (by have z1 := q3.out; have z2 := qM.out; have z3 := qg.out; first | omega | (simp only [World.drew] at z1 z2 z3 ⊢; omega))⟩
                      clear hK K
                      (try simp only [Act.put, List.setIfInBounds_toArray, List.set_cons_zero, List.set_cons_succ, List.getElem_toArray, List.getElem_cons_zero, List.getElem_cons_succ])
                      refine wpAnyH_take (i := 25) (v := ?_) rfl (by kernel_rfl) (by kernel_rfl) (by kernel_rfl) (fun _ _ _ h => h) (Or.inl ⟨by rfl, ?_⟩) (by assumption) ?_
                      rotate_left
                      · intro w hSw; (try dsimp only at hSw); go_simp; (try with_reducible rfl)
                      rotate_left
                      simp only [Act.put, List.setIfInBounds_toArray, List.set_cons_zero, List.set_cons_succ, List.getElem_toArray, List.getElem_cons_zero, List.getElem_cons_succ]
                      refine wpAnyH_ready (rs := [26]) (by kernel_rfl) (by simp) ?_
                      refine AllReadyH.cons rfl (fun K hK => ?_) ?_
                      · rw [if_pos (by rfl)]
                        refine wp_store_row _ _ _ rfl _ #[.int .i64 (S.p + 1), .int .i64 (-1), .int .i64 n, .int .i64 V0, .int .i64 V3, .int .i64 V4, .slice (some ⟨g4, 0, none⟩) S.n1 c4, .slice ar' S.n2 cr', .slice a5 S.n3 c5] rfl rfl _ _ Y3.out infoSt rfl (by simp [Value.oneCell']) ?_
                        refine hK.out _ _ ?_ (fun hHeld => ?_)
                        · exact ⟨cell_srow hHeld.1 (by have z1 := hM.out.1; have z2 := HG2.out; omega), cell_srow hHeld.2.1 (by have z1 := hM.out.1; have z2 := HG2.out; omega), cell_srow hHeld.2.2.1 (by have z1 := hM.out.1; have z2 := HG2.out; omega), cell_srow hHeld.2.2.2.1 (by have z1 := hM.out.1; have z2 := HG2.out; omega), cell_srow hHeld.2.2.2.2.1 (by have z1 := hM.out.1; have z2 := HG2.out; omega), cell_srow hHeld.2.2.2.2.2.1 (by have z1 := hM.out.1; have z2 := HG2.out; omega), cell_srow hHeld.2.2.2.2.2.2 (by have z1 := hM.out.1; have z2 := HG2.out; omega)⟩
                        clear hK K
                        (try simp only [Act.put, List.setIfInBounds_toArray, List.set_cons_zero, List.set_cons_succ, List.getElem_toArray, List.getElem_cons_zero, List.getElem_cons_succ])
                        refine wpAnyH_done (by kernel_rfl) ?_ _
                        (try clear hoth)
                        (try clear hbel)
                        (try clear ha5)
                        (try clear hc5)
                        (try clear hl5)
                        (try clear hl4)
                        (try clear hg4)
                        (try clear hHeld)
                        go_wp2_with fail
                        go_meet
                        exact ⟨g4, c4, c5, a5, Hid.mk (row_below BY.out (by omega) _), Hid.mk (row_self Y3.out _), Hid.mk (li_far H4.out.1 (Or.inr fun b hb => by cases hb; exact Nat.ne_of_gt H4.out.2) _), Hid.mk ⟨li_far LR'.out.1 (Or.inr fun b hb => Nat.ne_of_gt (LR'.out.2.2 b hb).1) _, LR'.out.2.1⟩, Hid.mk ⟨li_far L5.out.1 (Or.inr fun b hb => Nat.ne_of_gt (L5.out.2.2 b hb)) _, L5.out.2.1⟩, Hid.mk ⟨H4.out.2, fun b hb => (LR'.out.2.2 b hb).1, L5.out.2.2⟩⟩
                      exact AllReadyH.nil
                    exact AllReadyH.nil
                  exact AllReadyH.nil
                refine AllReadyH.cons rfl (fun K hK => ?_) ?_
                · go_simp
                  have AB := Hid.mk (blk_of BY.out (.cells #[] 2))
                  have q3 := Hid.mk (blk_lt Y3.out)
                  have qM := Hid.mk (blk_lt R6.out)
                  have qg := lg2
                  have qr := Hid.mk (li_lt LR'.out.1 (by rw [LR'.out.2.1]; have := R.out.l2; omega))
                  (try have q4 := Hid.mk (Nat.ne_of_lt (li_lt H4.out.1 (by rw [List.length_set, lst_len]; omega) _ rfl)))
                  have lg2 := Hid.mk (Nat.lt_of_lt_of_le lg2.out (((Below.refl _ _).alloc (Nat.le_refl _) (.cells #[] 2)).size))
                  have BY := Hid.mk (BY.out.alloc BY.out.size (.cells #[] 2))
                  have Y3 := Hid.mk (blk_alloc Y3.out (.cells #[] 2))
                  have R6 := Hid.mk (blk_alloc R6.out (.cells #[] 2))
                  have LR' := Hid.mk (And.intro (LR'.out.1.below ((Below.refl _ _).alloc (Nat.le_refl _) (.cells #[] 2))) LR'.out.2)
                  have LS' := Hid.mk (And.intro (LS'.out.1.below ((Below.refl _ _).alloc (Nat.le_refl _) (.cells #[] 2))) LS'.out.2)
                  (try have H4 := Hid.mk (And.intro (H4.out.1.below ((Below.refl _ _).alloc (Nat.le_refl _) (.cells #[] 2))) H4.out.2))
                  refine hK.out _ _ ?_ (fun hHeld => ?_)
                  · exact ⟨cell_alloc' hHeld.1 _, cell_alloc' hHeld.2.1 _, cell_alloc' hHeld.2.2.1 _, cell_alloc' hHeld.2.2.2.1 _, cell_alloc' hHeld.2.2.2.2.1 _, cell_alloc' hHeld.2.2.2.2.2.1 _, cell_alloc' hHeld.2.2.2.2.2.2 _⟩
                  clear hK K
                  (try simp only [Act.put, List.setIfInBounds_toArray, List.set_cons_zero, List.set_cons_succ, List.getElem_toArray, List.getElem_cons_zero, List.getElem_cons_succ])
                  refine wpAnyH_ready (rs := [18]) (by kernel_rfl) (by simp) ?_
                  refine AllReadyH.cons rfl (fun K hK => ?_) ?_
                  · go_simp
                    refine (setS (some ⟨gs, os, none⟩) S.n1 t1 (lst S.n1 S.L1) q (tq + 1) _ (lst_len _ _).symm (li_lst (HS.out.below BY.out).s1) hqs j1).mono ?_
                    rintro e w9 ⟨g4, c4, rfl, hl4, hb, hg4, -⟩
                    have H4 := Hid.mk (And.intro hl4 (Nat.lt_of_lt_of_le (blk_lt Y3.out) hg4))
                    (try have q4 := Hid.mk (Nat.ne_of_gt (Nat.lt_of_lt_of_le (blk_lt AB.out) hg4)))
                    have BY := Hid.mk (below_then BY.out hb)
                    have Y3 := Hid.mk (blk_below Y3.out hb)
                    have R6 := Hid.mk (blk_below R6.out hb)
                    have LR' := Hid.mk (And.intro (LR'.out.1.below hb) LR'.out.2)
                    have LS' := Hid.mk (And.intro (LS'.out.1.below hb) LS'.out.2)
                    have lg2 := Hid.mk (Nat.lt_of_lt_of_le lg2.out hb.size)
                    (try have AB := Hid.mk (blk_below AB.out hb))
                    refine hK.out _ _ ?_ (fun hHeld => ?_)
                    · exact ⟨cell_keep hb hHeld.1, cell_keep hb hHeld.2.1, cell_keep hb hHeld.2.2.1, cell_keep hb hHeld.2.2.2.1, cell_keep hb hHeld.2.2.2.2.1, cell_keep hb hHeld.2.2.2.2.2.1, cell_keep hb hHeld.2.2.2.2.2.2⟩
                    clear hK K
                    (try simp only [Act.put, List.setIfInBounds_toArray, List.set_cons_zero, List.set_cons_succ, List.getElem_toArray, List.getElem_cons_zero, List.getElem_cons_succ])
                    refine wpAnyH_ready (rs := [24]) (by kernel_rfl) (by simp) ?_
                    refine AllReadyH.cons rfl (fun K hK => ?_) ?_
                    · rw [if_pos (by rfl)]
                      refine wp_clone _ _ rfl _ AB.out rfl al' S.n3 cs' out.2.1 rfl LS'.out.1 LS'.out.2.symm j3 ?_
                      intro a5 c5 w10 hc5 hl5 ha5 hoth hbel
                      have BY := Hid.mk (hbel _ _ BY.out (by have z1 := q3.out; have z2 := qM.out; have z3 := qg.out; first | omega | (simp only [World.drew] at z1 z2 z3 ⊢; omega)))
                      have Y3 := Hid.mk ((hoth _ (blk_lt Y3.out) (by have z1 := q3.out; have z2 := qM.out; have z3 := qg.out; first | omega | (simp only [World.drew] at z1 z2 z3 ⊢; omega))).trans Y3.out)
                      have LR' := Hid.mk (And.intro (li_oth LR'.out.1 hoth (Or.inr fun x hx => Nat.ne_of_lt (qr.out x hx))) LR'.out.2)
                      have H4 := Hid.mk (And.intro (li_oth H4.out.1 hoth (Or.inr fun x hx => by cases hx; exact q4.out)) H4.out.2)
                      have L5 : Hid (Li w10 a5 out.2.1 ∧ out.2.1.length = S.n3 ∧ ∀ x, a5 = some x → w.heap.size + 1 + 1 + 1 < x.block) := Hid.mk ⟨hl5, LS'.out.2, fun x hx => Nat.lt_of_lt_of_le q3.out (ha5 x hx)⟩
                      refine hK.out _ _ ?_ (fun hHeld => ?_)
                      · exact ⟨cell_oth hHeld.1 hoth (by have z1 := q3.out; have z2 := qM.out; have z3 := qg.out; first | omega | (simp only [World.drew] at z1 z2 z3 ⊢; omega)), cell_oth hHeld.2.1 hoth (by have z1 := q3.out; have z2 := qM.out; have z3 := qg.out; first | omega | (simp only [World.drew] at z1 z2 z3 ⊢; omega)), cell_oth hHeld.2.2.1 hoth (by have z1 := q3.out; have z2 := qM.out; have z3 := qg.out; first | omega | (simp only [World.drew] at z1 z2 z3 ⊢; omega)), cell_oth hHeld.2.2.2.1 hoth (by have z1 := q3.out; have z2 := qM.out; have z3 := qg.out; first | omega | (simp only [World.drew] at z1 z2 z3 ⊢; omega)), cell_oth hHeld.2.2.2.2.1 hoth (by have z1 := q3.out; have z2 := qM.out; have z3 := qg.out; first | omega | (simp only [World.drew] at z1 z2 z3 ⊢; omega)), cell_oth hHeld.2.2.2.2.2.1 hoth (by have z1 := q3.out; have z2 := qM.out; have z3 := qg.out; first | omega | (simp only [World.drew] at z1 z2 z3 ⊢; omega)), cell_oth hHeld.2.2.2.2.2.2 hoth (by have z1 := q3.out; have z2 := qM.out; have z3 := qg.out; first | omega | (simp only [World.drew] at z1 z2 z3 ⊢; omega))⟩
                      clear hK K
                      (try simp only [Act.put, List.setIfInBounds_toArray, List.set_cons_zero, List.set_cons_succ, List.getElem_toArray, List.getElem_cons_zero, List.getElem_cons_succ])
                      refine wpAnyH_take (i := 25) (v := ?_) rfl (by kernel_rfl) (by kernel_rfl) (by kernel_rfl) (fun _ _ _ h => h) (Or.inl ⟨by rfl, ?_⟩) (by assumption) ?_
                      rotate_left
                      · intro w hSw; (try dsimp only at hSw); go_simp; (try with_reducible rfl)
                      rotate_left
                      simp only [Act.put, List.setIfInBounds_toArray, List.set_cons_zero, List.set_cons_succ, List.getElem_toArray, List.getElem_cons_zero, List.getElem_cons_succ]
                      refine wpAnyH_ready (rs := [26]) (by kernel_rfl) (by simp) ?_
                      refine AllReadyH.cons rfl (fun K hK => ?_) ?_
                      · rw [if_pos (by rfl)]
                        refine wp_store_row _ _ _ rfl _ #[.int .i64 (S.p + 1), .int .i64 (-1), .int .i64 n, .int .i64 V0, .int .i64 V3, .int .i64 V4, .slice (some ⟨g4, 0, none⟩) S.n1 c4, .slice ar' S.n2 cr', .slice a5 S.n3 c5] rfl rfl _ _ Y3.out infoSt rfl (by simp [Value.oneCell']) ?_
                        refine hK.out _ _ ?_ (fun hHeld => ?_)
                        · exact ⟨cell_srow hHeld.1 (by have z1 := hM.out.1; have z2 := HG2.out; omega), cell_srow hHeld.2.1 (by have z1 := hM.out.1; have z2 := HG2.out; omega), cell_srow hHeld.2.2.1 (by have z1 := hM.out.1; have z2 := HG2.out; omega), cell_srow hHeld.2.2.2.1 (by have z1 := hM.out.1; have z2 := HG2.out; omega), cell_srow hHeld.2.2.2.2.1 (by have z1 := hM.out.1; have z2 := HG2.out; omega), cell_srow hHeld.2.2.2.2.2.1 (by have z1 := hM.out.1; have z2 := HG2.out; omega), cell_srow hHeld.2.2.2.2.2.2 (by have z1 := hM.out.1; have z2 := HG2.out; omega)⟩
                        clear hK K
                        (try simp only [Act.put, List.setIfInBounds_toArray, List.set_cons_zero, List.set_cons_succ, List.getElem_toArray, List.getElem_cons_zero, List.getElem_cons_succ])
                        refine wpAnyH_done (by kernel_rfl) ?_ _
                        (try clear hoth)
                        (try clear hbel)
                        (try clear ha5)
                        (try clear hc5)
                        (try clear hl5)
                        (try clear hl4)
                        (try clear hg4)
                        (try clear hHeld)
                        go_wp2_with fail
                        go_meet
                        exact ⟨g4, c4, c5, a5, Hid.mk (row_below BY.out (by omega) _), Hid.mk (row_self Y3.out _), Hid.mk (li_far H4.out.1 (Or.inr fun b hb => by cases hb; exact Nat.ne_of_gt H4.out.2) _), Hid.mk ⟨li_far LR'.out.1 (Or.inr fun b hb => Nat.ne_of_gt (LR'.out.2.2 b hb).1) _, LR'.out.2.1⟩, Hid.mk ⟨li_far L5.out.1 (Or.inr fun b hb => Nat.ne_of_gt (L5.out.2.2 b hb)) _, L5.out.2.1⟩, Hid.mk ⟨H4.out.2, fun b hb => (LR'.out.2.2 b hb).1, L5.out.2.2⟩⟩
                      exact AllReadyH.nil
                    exact AllReadyH.nil
                  exact AllReadyH.nil
                exact AllReadyH.nil
              case rest =>
                obtain ⟨g4, c4, c5, a5, BY, Y3, H4, LR', L5, FF⟩ := hcut
                go_wp2
                refine bodyPost_ret (results_cell_row Tryz.results21 _ _ (w.heap.size + 1 + 1 + 1) _ _ _ _ (by simp [Act.put]) Y3.out Tryz.underlying34 rfl infoSt) rfl ?_
                rw [HF.out]
                refine ⟨some ⟨g4, 0, none⟩, ar', a5, c4, cr', c5, ?_, ⟨?_, ?_, ?_⟩, BY.out, ⟨Or.inr fun x hx => by cases hx; have z := FF.out.1; show w.heap.size ≤ g4; omega, Or.inr fun x hx => by have z := FF.out.2.1 x hx; omega, Or.inr fun x hx => by have z := FF.out.2.2 x hx; omega⟩, HCX.out⟩
                · show Ending.returned (.agg #[.int .i64 (S.p + 1), .int .i64 (-1), .int .i64 n, .int .i64 V0, .int .i64 V3, .int .i64 V4, .slice (some ⟨g4, 0, none⟩) S.n1 c4, .slice ar' S.n2 cr', .slice a5 S.n3 c5]) = .returned (.agg #[.int .i64 (S.p + 1), .int .i64 (-1), .int .i64 n, .int .i64 ((nextL I u S n).getD 0 0), .int .i64 ((nextL I u S n).getD 3 0), .int .i64 ((nextL I u S n).getD 4 0), .slice (some ⟨g4, 0, none⟩) S.n1 c4, .slice ar' S.n2 cr', .slice a5 S.n3 c5])
                  rw [HVV.out.1, HVV.out.2.1, HVV.out.2.2]
                · show NumsAt _ (some ⟨g4, 0, none⟩) S.n1 (fun i => ((lst S.n1 S.L1).set (qOf I n) (dueOf I n + 1)).getD i 0)
                  have z := H4.out
                  unfold Li at z
                  rw [List.length_set, lst_len] at z
                  rw [hqe.out, ← HWQ.out]
                  exact z
                · show NumsAt _ ar' S.n2 (fun i => (stepOut C I u S n).1.getD i 0)
                  have z := LR'.out.1
                  unfold Li at z
                  rw [LR'.out.2] at z
                  rw [HOUT.out]
                  exact z
                · show NumsAt _ a5 S.n3 (fun i => (stepOut C I u S n).2.1.getD i 0)
                  have z := L5.out.1
                  unfold Li at z
                  rw [L5.out.2] at z
                  rw [HOUT.out]
                  exact z
        · have hd : decide (tq ≠ dueOf I n) = true := by simp [hw]
          rw [hd]
          have HF : Hid (stepB C I (u : Int) S n = bareS (S.p + 1) 0) := by unfold Hid stepB; rw [if_neg n1.out, if_neg (by have := n2.out; omega), if_neg n3.out, if_pos (by rw [hqe.out, ← HTQ.out]; exact hw)]
          clear hd hw
          go_wp2_with fail
          refine (failedS (S.p + 1) 0 _).mono ?_
          rename_i hKK
          rintro e wz ⟨rfl, hbz⟩
          refine hKK _ _ ?_
          clear hKK
          have AZ := Hid.mk (blk_below A3.out hbz)
          have BZ := Hid.mk (below_then HB.out hbz)
          clear hbz
          refine wpList_store_row rfl _ _ _ rfl (w.heap.size + 1 + 1 + 1) #[.int .i64 (S.p + 1), .int .i64 0, .int .i64 0, .int .i64 0, .int .i64 0, .int .i64 0, .slice none 0 0, .slice none 0 0, .slice none 0 0] rfl rfl _ _ AZ.out infoSt rfl (by simp [Value.oneCell']) ?_
          go_wp2
          refine bodyPost_ret (results_cell_row Tryz.results21 _ _ (w.heap.size + 1 + 1 + 1) _ _ _ _ (by simp [Act.put]) (row_self AZ.out _) Tryz.underlying34 rfl infoSt) rfl ?_
          exact ⟨none, none, none, 0, 0, 0, by rw [HF.out]; rfl, by rw [HF.out]; exact bare_at _ _ _, row_below BZ.out (by omega) _, by rw [HF.out]; exact bare_fre _ _ _, by rw [HF.out]; exact Nat.le_refl _⟩
end Go.Proofs.YtgooegcmgejfpaaGreatDoor.Mac
