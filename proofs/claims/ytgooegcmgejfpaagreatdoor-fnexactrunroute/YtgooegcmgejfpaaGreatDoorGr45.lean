import Derived.Test.YtgooegcmgejfpaaGreatDoorGr42
import Derived.Test.YtgooegcmgejfpaaGreatDoorGr35
import Derived.Deep.DrawnRows
import Derived.Deep.CutRange
import Derived.Deep.Cut
import Derived.Deep.DeepCutAuto
namespace Go.Proofs.YtgooegcmgejfpaaGreatDoor.Mac
open Go Go.RowKit Go.Proofs.YtgooegcmgejfpaaGreatDoor.Mem Go.Proofs.YtgooegcmgejfpaaGreatDoor.Travel
open Go.Proofs.YtgooegcmgejfpaaGreatDoor.Valid (inB nodes nodes_bd validB)
open Go.Proofs.YtgooegcmgejfpaaGreatDoor.StV (stopB allIn listB okSt validStS)
open Go.Proofs.YtgooegcmgejfpaaGreatDoor.Arith (cl cl_bd sadd smul addS)
set_option linter.unusedVariables false
set_option linter.unusedSimpArgs false
attribute [local go_sem ↓] Go.wp_at_zero Go.wp_at_succ

set_option maxHeartbeats 8000000 in
set_option maxRecDepth 100000 in
theorem finS (a1 a2 a3 b1 b2 b3 s1 s2 s3 : Option Addr) (c1 c2 c3 d1 d2 d3 t1 t2 t3 : Nat) (C : Co) (I : In) (v : Int) (S : St) (w : World) (hC : CoAt w a1 a2 a3 C) (hI : InAt w b1 b2 b3 I) (hS : StAt w s1 s2 s3 S) (k1 : C.n1 ≤ 1048576) (k2 : C.n2 ≤ 1048576) (k3 : C.n3 ≤ 1048576) (h1 : I.nV ≤ 1048576) (h2 : I.nQ ≤ 1048576) (h3 : I.nR ≤ 1048576) (j1 : S.n1 ≤ 1048576) (j2 : S.n2 ≤ 1048576) (j3 : S.n3 ≤ 1048576) (hcap : S.n2 ≤ t2) :
    Calls Tryz.prog 24 #[.agg #[.int .i64 C.R, .int .i64 C.S, .slice a1 C.n1 c1, .slice a2 C.n2 c2, .slice a3 C.n3 c3], .agg #[.slice b1 I.nV d1, .slice b2 I.nQ d2, .slice b3 I.nR d3], .int .i64 v, .agg #[.int .i64 S.p, .int .i64 S.r, .int .i64 S.d, .int .i64 S.t, .int .i64 S.s, .int .i64 S.l, .slice s1 S.n1 t1, .slice s2 S.n2 t2, .slice s3 S.n3 t3]] w fun e w' => e = .returned (.agg #[.int .i64 (finB C I v S).1, .int .i64 (finB C I v S).2.1, .int .i64 (finB C I v S).2.2]) ∧ Below w.heap.size w w' := by
  have HC := Hid.mk hC
  have HI := Hid.mk hI
  have HS := Hid.mk hS
  clear hC hI hS
  go_enter Tryz.func24, Tryz.ntmps24
  go_wp2_with fail
  refine (validStS a1 a2 a3 b1 b2 b3 s1 s2 s3 c1 c2 c3 d1 d2 d3 t1 t2 t3 C I v S _ (HC.out.below (by go_grown)) (HI.out.below (by go_grown)) (HS.out.below (by go_grown)) (by omega) (by omega) (by omega) (by omega) (by omega) (by omega) (by omega) (by omega) (by omega)).mono ?_
  rintro e w1 ⟨rfl, hb⟩
  have HB := Hid.mk (below_then (w := w) (by go_grown) hb)
  have A0 := Hid.mk (blk_below (blk_alloc (blk_alloc (blk_alloc (blk_new w _) _) _) _) hb)
  have A1 := Hid.mk (blk_below (blk_alloc (blk_alloc (blk_new1 w _ _) _) _) hb)
  have A2 := Hid.mk (blk_below (blk_alloc (blk_new2 w _ _ _) _) hb)
  have A3 := Hid.mk (blk_below (blk_new3 w _ _ _ _) hb)
  clear hb
  have y0 := blk_cell A2.out 0
  have y1 := blk_cell A2.out 1
  have v0 := blk_cell A3.out 0
  have v1 := blk_cell A3.out 1
  have v2 := blk_cell A3.out 2
  have u0 := blk_unfrozen A3.out 0
  have u1 := blk_unfrozen A3.out 1
  have u2 := blk_unfrozen A3.out 2
  simp only [List.getElem?_toArray, List.getElem?_cons_zero, List.getElem?_cons_succ] at y0 y1 v0 v1 v2 u0 u1 u2
  cases hok : okSt C I v S with
  | false =>
    have HF : Hid (finB C I v S = (0, 0, 0)) := by unfold Hid finB; rw [if_pos (Or.inl hok)]
    go_wp2
    refine bodyPost_ret (results_cell_row Tryz.results24 _ _ (w.heap.size + 1 + 1 + 1) _ _ _ _ (by simp [Act.put]) (vset A3.out _ _ _) Tryz.underlying59 rfl infoVd) rfl ?_
    exact ⟨by rw [HF.out], vbel HB.out (by omega) _ _ _⟩
  | true =>
    by_cases hp : S.p = -1
    · have HF : Hid (finB C I v S = (0, 0, 0)) := by unfold Hid finB; rw [if_pos (Or.inr hp)]
      have e1 : (S.p == -1) = true := by simp [hp]
      clear hp
      go_wp2
      refine bodyPost_ret (results_cell_row Tryz.results24 _ _ (w.heap.size + 1 + 1 + 1) _ _ _ _ (by simp [Act.put]) (vset A3.out _ _ _) Tryz.underlying59 rfl infoVd) rfl ?_
      exact ⟨by rw [HF.out], vbel HB.out (by omega) _ _ _⟩
    by_cases hr : 0 ≤ S.r
    · have HF : Hid (finB C I v S = (2, S.p, S.r)) := by unfold Hid finB; rw [if_neg (by rw [hok]; simp [hp]), if_pos hr]
      have e1 : (S.p == -1) = false := by simp [hp]
      clear hp
      go_wp2
      refine bodyPost_ret (results_cell_row Tryz.results24 _ _ (w.heap.size + 1 + 1 + 1) _ _ _ _ (by simp [Act.put]) (vset A3.out _ _ _) Tryz.underlying59 rfl infoVd) rfl ?_
      exact ⟨by rw [HF.out], vbel HB.out (by omega) _ _ _⟩
    obtain ⟨hv0, R⟩ := run_ok hok hp hr
    obtain ⟨u, rfl⟩ : ∃ u : Nat, v = (u : Int) := ⟨v.toNat, by omega⟩
    rw [Int.toNat_natCast] at R
    have e1 : (S.p == -1) = false := by simp [hp]
    have e2 : decide (0 ≤ S.r) = false := by simp [hr]
    have HP := Hid.mk hp
    have HR := Hid.mk hr
    clear hp
    go_wp2_with fail
    have HOK := Hid.mk hok
    have R := Hid.mk R
    have hpw : IntKind.i64.wrap (S.p + 1) = S.p + 1 := by rw [IntKind.wrap_i64]; have := R.out.p0; have := R.out.p1; omega
    have y6 := blk_cell A2.out 6
    simp only [List.getElem?_toArray, List.getElem?_cons_zero, List.getElem?_cons_succ] at y6
    clear hok
    go_loopw [9] (fun i wr => wr = w1 ∧ ∃ k : Nat, k ≤ S.n1 ∧ i = .int .i64 (k : Int) ∧ Hid (allB k (fun i => !(S.L1 i == 1)) = true)) (fun i _ => S.n1 - (intOf i).toNat)
    case atStart => exact ⟨rfl, 0, Nat.zero_le _, rfl, rfl⟩
    case round =>
      obtain ⟨rfl, k, hk, rfl, hall⟩ := hrel
      by_cases hlt : k < S.n1
      · have k0 : (k : Int) < (S.n1 : Int) := by omega
        obtain ⟨gs, os, rfl, hc⟩ := (HS.out.below HB.out).s1.at hlt
        by_cases hone : S.L1 k = 1
        · have HF : Hid (finB C I (u : Int) S = (2, S.p + 1, 0)) := by
            unfold Hid finB
            rw [if_neg (by rw [HOK.out]; have := HP.out; simp [this]), if_neg (by have := HR.out; omega), if_pos (by unfold anyB; rw [allB_false hlt (by simp [hone])]; rfl)]
          have e3 : (S.L1 k == 1) = true := by simp [hone]
          clear hone
          go_wp2
          refine bodyPost_ret (results_cell_row Tryz.results24 _ _ (w.heap.size + 1 + 1 + 1) _ _ _ _ (by simp [Act.put]) (vset A3.out _ _ _) Tryz.underlying59 rfl infoVd) rfl ?_
          exact ⟨by rw [HF.out], vbel HB.out (by omega) _ _ _⟩
        · have e3 : (S.L1 k == 1) = false := by simp [hone]
          have hall' : Hid (allB (k + 1) (fun i => !(S.L1 i == 1)) = true) := allB_succ hall.out (by simp [e3])
          clear hone hall
          go_wp2
          exact ⟨⟨by first | rfl | trivial, k + 1, by omega, by first | rfl | go_num | omega, hall'⟩, by simp [intOf]; omega⟩
      · obtain rfl : k = S.n1 := by omega
        go_upto_region 10 with fail
        have hnone : Hid (anyB S.n1 (fun i => S.L1 i == 1) = false) := by unfold Hid anyB; rw [hall.out]; rfl
        rcases HI.out.v with h0 | ⟨gv, ov, rfl, hvv⟩
        · have := R.out.hv; omega
        have hu := R.out.hv
        obtain ⟨-, kb0, -⟩ := Veh.at (hvv u hu)
        have hgv : Hid (gv < w.heap.size) := lt_of_cell kb0
        have kb := cell_keep HB.out kb0
        clear kb0
        have hu0 : (0 : Int) ≤ (u : Int) := by omega
        have hu1 : (u : Int) < (I.nV : Int) := by omega
        clear hvv
        have x0 := blk_cell A1.out 0
        have x1 := blk_cell A1.out 1
        have x2 := blk_cell A1.out 2
        have y2 := blk_cell A2.out 2
        have y3 := blk_cell A2.out 3
        have y4 := blk_cell A2.out 4
        have y5 := blk_cell A2.out 5
        have y7 := blk_cell A2.out 7
        have y8 := blk_cell A2.out 8
        simp only [List.getElem?_toArray, List.getElem?_cons_zero, List.getElem?_cons_succ] at x0 x1 x2 y2 y3 y4 y5 y7 y8
        have HS0 := Hid.mk (And.intro x0 (And.intro x1 (And.intro x2 (And.intro y0 (And.intro y1 (And.intro y2 (And.intro y3 (And.intro y4 (And.intro y5 (And.intro y6 (And.intro y7 (And.intro y8 kb))))))))))))
        go_cut [10] (fun m wx => ∃ (M g3 c3' : Nat), m = .pointer (some ⟨M, 0, none⟩) ∧ Hid (w.heap.size + 1 + 1 + 1 < M) ∧ Hid (Below w.heap.size w wx) ∧ Hid (wx.heap[M]? = some (.cells #[.slice (some ⟨g3, 0, none⟩) S.n2 c3', .slice s3 S.n3 t3, .int .i64 0, .int .i64 (I.V u).b, .int .i64 (-1), .int .i64 (I.nQ : Int), .int .i64 (-1)] 83)) ∧ Hid (Li wx (some ⟨g3, 0, none⟩) (nextL I u S u ++ (lst S.n2 S.L2).drop 13)) ∧ Hid (wx.heap[w.heap.size]? = some (.cells #[.int .i64 C.R, .int .i64 C.S, .slice a1 C.n1 c1, .slice a2 C.n2 c2, .slice a3 C.n3 c3] 38)) ∧ Hid (wx.heap[w.heap.size + 1 + 1]? = some (.cells #[.int .i64 S.p, .int .i64 S.r, .int .i64 S.d, .int .i64 S.t, .int .i64 S.s, .int .i64 S.l, .slice s1 S.n1 t1, .slice s2 S.n2 t2, .slice s3 S.n3 t3] 34)) ∧ Hid (wx.heap[w.heap.size + 1 + 1 + 1]? = some (.cells #[.int .i64 0, .int .i64 0, .int .i64 0] 59)))
        case first =>
          have hsz := Hid.mk (blk_lt A3.out)
          clear y0 y1 v0 v1 v2 u0 u1 u2 y2 y3 y4 y5 y6 y7 y8 x0 x1 x2 kb
          have HB := Hid.mk HB.out.drew
          have A0 := Hid.mk (blk_drew A0.out)
          have A2 := Hid.mk (blk_drew A2.out)
          have A3 := Hid.mk (blk_drew A3.out)
          refine wp_region_held_drew (S := (fun w' => w'.cell? ⟨w.heap.size + 1, 0, none⟩ = some (.slice (some ⟨gv, ov, none⟩) I.nV d1) ∧ w'.cell? ⟨w.heap.size + 1, 1, none⟩ = some (.slice b2 I.nQ d2) ∧ w'.cell? ⟨w.heap.size + 1, 2, none⟩ = some (.slice b3 I.nR d3) ∧ w'.cell? ⟨w.heap.size + 1 + 1, 0, none⟩ = some (.int .i64 S.p) ∧ w'.cell? ⟨w.heap.size + 1 + 1, 1, none⟩ = some (.int .i64 S.r) ∧ w'.cell? ⟨w.heap.size + 1 + 1, 2, none⟩ = some (.int .i64 S.d) ∧ w'.cell? ⟨w.heap.size + 1 + 1, 3, none⟩ = some (.int .i64 S.t) ∧ w'.cell? ⟨w.heap.size + 1 + 1, 4, none⟩ = some (.int .i64 S.s) ∧ w'.cell? ⟨w.heap.size + 1 + 1, 5, none⟩ = some (.int .i64 S.l) ∧ w'.cell? ⟨w.heap.size + 1 + 1, 6, none⟩ = some (.slice s1 S.n1 t1) ∧ w'.cell? ⟨w.heap.size + 1 + 1, 7, none⟩ = some (.slice s2 S.n2 t2) ∧ w'.cell? ⟨w.heap.size + 1 + 1, 8, none⟩ = some (.slice s3 S.n3 t3) ∧ w'.cell? ⟨gv, ov + u * 7 + 1, none⟩ = some (.int .i64 (I.V u).b))) (by kernel_rfl) ?_ (fun hHeld => ?_)
          · exact HS0.out
          refine wpAnyH_take (i := 0) (v := ?_) rfl (by kernel_rfl) (by kernel_rfl) (by kernel_rfl) (fun _ _ _ h => h) (Or.inl ⟨by rfl, ?_⟩) (by assumption) ?_
          rotate_left
          · intro w hSw; (try dsimp only at hSw); go_simp; (try with_reducible rfl)
          rotate_left
          simp only [Act.put, List.setIfInBounds_toArray, List.set_cons_zero, List.set_cons_succ, List.getElem_toArray, List.getElem_cons_zero, List.getElem_cons_succ]
          refine wpAnyH_take (i := 1) (v := ?_) rfl (by kernel_rfl) (by kernel_rfl) (by kernel_rfl) (fun _ _ _ h => h) (Or.inl ⟨by rfl, ?_⟩) (by assumption) ?_
          rotate_left
          · intro w hSw; (try dsimp only at hSw); go_simp; (try with_reducible rfl)
          rotate_left
          simp only [Act.put, List.setIfInBounds_toArray, List.set_cons_zero, List.set_cons_succ, List.getElem_toArray, List.getElem_cons_zero, List.getElem_cons_succ]
          refine wpAnyH_take (i := 2) (v := ?_) rfl (by kernel_rfl) (by kernel_rfl) (by kernel_rfl) (fun _ _ _ h => h) (Or.inl ⟨by rfl, ?_⟩) (by assumption) ?_
          rotate_left
          · intro w hSw; (try dsimp only at hSw); go_simp; (try with_reducible rfl)
          rotate_left
          simp only [Act.put, List.setIfInBounds_toArray, List.set_cons_zero, List.set_cons_succ, List.getElem_toArray, List.getElem_cons_zero, List.getElem_cons_succ]
          refine wpAnyH_take (i := 3) (v := ?_) rfl (by kernel_rfl) (by kernel_rfl) (by kernel_rfl) (fun _ _ _ h => h) (Or.inl ⟨by rfl, ?_⟩) (by assumption) ?_
          rotate_left
          · intro w hSw; (try dsimp only at hSw); go_simp; (try with_reducible rfl)
          rotate_left
          simp only [Act.put, List.setIfInBounds_toArray, List.set_cons_zero, List.set_cons_succ, List.getElem_toArray, List.getElem_cons_zero, List.getElem_cons_succ]
          refine wpAnyH_take (i := 4) (v := ?_) rfl (by kernel_rfl) (by kernel_rfl) (by kernel_rfl) (fun _ _ _ h => h) (Or.inl ⟨by rfl, ?_⟩) (by assumption) ?_
          rotate_left
          · intro w hSw; (try dsimp only at hSw); go_simp; (try with_reducible rfl)
          rotate_left
          simp only [Act.put, List.setIfInBounds_toArray, List.set_cons_zero, List.set_cons_succ, List.getElem_toArray, List.getElem_cons_zero, List.getElem_cons_succ]
          refine wpAnyH_take (i := 5) (v := ?_) rfl (by kernel_rfl) (by kernel_rfl) (by kernel_rfl) (fun _ _ _ h => h) (Or.inl ⟨by rfl, ?_⟩) (by assumption) ?_
          rotate_left
          · intro w hSw; (try dsimp only at hSw); go_simp; (try with_reducible rfl)
          rotate_left
          simp only [Act.put, List.setIfInBounds_toArray, List.set_cons_zero, List.set_cons_succ, List.getElem_toArray, List.getElem_cons_zero, List.getElem_cons_succ]
          refine wpAnyH_take (i := 8) (v := ?_) rfl (by kernel_rfl) (by kernel_rfl) (by kernel_rfl) (fun _ _ _ h => h) (Or.inl ⟨by rfl, ?_⟩) (by assumption) ?_
          rotate_left
          · intro w hSw; (try dsimp only at hSw); go_simp; (try with_reducible rfl)
          rotate_left
          simp only [Act.put, List.setIfInBounds_toArray, List.set_cons_zero, List.set_cons_succ, List.getElem_toArray, List.getElem_cons_zero, List.getElem_cons_succ]
          refine wpAnyH_take (i := 9) (v := ?_) rfl (by kernel_rfl) (by kernel_rfl) (by kernel_rfl) (fun _ _ _ h => h) (Or.inl ⟨by rfl, ?_⟩) (by assumption) ?_
          rotate_left
          · intro w hSw; (try dsimp only at hSw); go_simp; (try with_reducible rfl)
          rotate_left
          simp only [Act.put, List.setIfInBounds_toArray, List.set_cons_zero, List.set_cons_succ, List.getElem_toArray, List.getElem_cons_zero, List.getElem_cons_succ]
          refine wpAnyH_take (i := 10) (v := ?_) rfl (by kernel_rfl) (by kernel_rfl) (by kernel_rfl) (fun _ _ _ h => h) (Or.inl ⟨by rfl, ?_⟩) (by assumption) ?_
          rotate_left
          · intro w hSw; (try dsimp only at hSw); go_simp; (try with_reducible rfl)
          rotate_left
          simp only [Act.put, List.setIfInBounds_toArray, List.set_cons_zero, List.set_cons_succ, List.getElem_toArray, List.getElem_cons_zero, List.getElem_cons_succ]
          refine wpAnyH_take (i := 11) (v := ?_) rfl (by kernel_rfl) (by kernel_rfl) (by kernel_rfl) (fun _ _ _ h => h) (Or.inl ⟨by rfl, ?_⟩) (by assumption) ?_
          rotate_left
          · intro w hSw; (try dsimp only at hSw); go_simp; (try with_reducible rfl)
          rotate_left
          simp only [Act.put, List.setIfInBounds_toArray, List.set_cons_zero, List.set_cons_succ, List.getElem_toArray, List.getElem_cons_zero, List.getElem_cons_succ]
          refine wpAnyH_take (i := 12) (v := ?_) rfl (by kernel_rfl) (by kernel_rfl) (by kernel_rfl) (fun _ _ _ h => h) (Or.inl ⟨by rfl, ?_⟩) (by assumption) ?_
          rotate_left
          · intro w hSw; (try dsimp only at hSw); go_simp; (try with_reducible rfl)
          rotate_left
          simp only [Act.put, List.setIfInBounds_toArray, List.set_cons_zero, List.set_cons_succ, List.getElem_toArray, List.getElem_cons_zero, List.getElem_cons_succ]
          refine wpAnyH_take (i := 13) (v := ?_) rfl (by kernel_rfl) (by kernel_rfl) (by kernel_rfl) (fun _ _ _ h => h) (Or.inl ⟨by rfl, ?_⟩) (by assumption) ?_
          rotate_left
          · intro w hSw; (try dsimp only at hSw); go_simp; (try with_reducible rfl)
          rotate_left
          simp only [Act.put, List.setIfInBounds_toArray, List.set_cons_zero, List.set_cons_succ, List.getElem_toArray, List.getElem_cons_zero, List.getElem_cons_succ]
          refine wpAnyH_take (i := 14) (v := ?_) rfl (by kernel_rfl) (by kernel_rfl) (by kernel_rfl) (fun _ _ _ h => h) (Or.inl ⟨by rfl, ?_⟩) (by assumption) ?_
          rotate_left
          · intro w hSw; (try dsimp only at hSw); go_simp; (try with_reducible rfl)
          rotate_left
          simp only [Act.put, List.setIfInBounds_toArray, List.set_cons_zero, List.set_cons_succ, List.getElem_toArray, List.getElem_cons_zero, List.getElem_cons_succ]
          refine wpAnyH_take (i := 15) (v := ?_) rfl (by kernel_rfl) (by kernel_rfl) (by kernel_rfl) (fun _ _ _ h => h) (Or.inl ⟨by rfl, ?_⟩) (by assumption) ?_
          rotate_left
          · intro w hSw; (try dsimp only at hSw); go_simp; (try with_reducible rfl)
          rotate_left
          simp only [Act.put, List.setIfInBounds_toArray, List.set_cons_zero, List.set_cons_succ, List.getElem_toArray, List.getElem_cons_zero, List.getElem_cons_succ]
          refine wpAnyH_take (i := 16) (v := ?_) rfl (by kernel_rfl) (by kernel_rfl) (by kernel_rfl) (fun _ _ _ h => h) (Or.inl ⟨by rfl, ?_⟩) (by assumption) ?_
          rotate_left
          · intro w hSw; (try dsimp only at hSw); go_simp; (try with_reducible rfl)
          rotate_left
          simp only [Act.put, List.setIfInBounds_toArray, List.set_cons_zero, List.set_cons_succ, List.getElem_toArray, List.getElem_cons_zero, List.getElem_cons_succ]
          refine wpAnyH_take (i := 17) (v := ?_) rfl (by kernel_rfl) (by kernel_rfl) (by kernel_rfl) (fun _ _ _ h => h) (Or.inl ⟨by rfl, ?_⟩) (by assumption) ?_
          rotate_left
          · intro w hSw; (try dsimp only at hSw); go_simp; (try with_reducible rfl)
          rotate_left
          simp only [Act.put, List.setIfInBounds_toArray, List.set_cons_zero, List.set_cons_succ, List.getElem_toArray, List.getElem_cons_zero, List.getElem_cons_succ]
          refine wpAnyH_take (i := 18) (v := ?_) rfl (by kernel_rfl) (by kernel_rfl) (by kernel_rfl) (fun _ _ _ h => h) (Or.inl ⟨by rfl, ?_⟩) (by assumption) ?_
          rotate_left
          · intro w hSw; (try dsimp only at hSw); go_simp; (try with_reducible rfl)
          rotate_left
          simp only [Act.put, List.setIfInBounds_toArray, List.set_cons_zero, List.set_cons_succ, List.getElem_toArray, List.getElem_cons_zero, List.getElem_cons_succ]
          refine wpAnyH_ready (rs := [6, 20]) (by kernel_rfl) (by simp) ?_
          refine AllReadyH.cons rfl (fun K hK => ?_) ?_
          · go_simp
            refine (nextS (some ⟨gv, ov, none⟩) b2 b3 d1 d2 d3 I u S.p S.r S.d S.t S.s S.l (u : Int) s1 s2 s3 S.n1 t1 S.n2 t2 S.n3 t3 _ (HI.out.below HB.out) R.out.val (lens_bd (validB_parts R.out.val).1).1 (lens_bd (validB_parts R.out.val).1).2.1 hu R.out.d0 R.out.d1 hu0 (by unfold nodes; omega) R.out.p0 (by have := R.out.p1; omega) _ _ _ _ _ _ _ _ _ _ _ rfl rfl rfl rfl rfl rfl rfl rfl rfl rfl rfl (by have := (plOf_ok' R.out.val (n := (u : Int)) hu0 (by unfold nodes; omega)).o0; omega) (by have q := plOf_ok' R.out.val (n := (u : Int)) hu0 (by unfold nodes; omega); have q1 := q.oc; have q2 := q.c1; omega) (size_bd R.out.val _).1 (by have := (size_bd R.out.val (u : Int)).2; omega)).mono ?_
            rintro e w2 ⟨g2, rfl, hl2, hb2, -⟩
            have HL : Hid (Li w2 (some ⟨g2, 0, none⟩) (nextL I u S u)) := hl2
            have HBo := HB
            have HB := Hid.mk (below_then HB.out hb2)
            have A0 := Hid.mk (blk_below A0.out hb2)
            have A2 := Hid.mk (blk_below A2.out hb2)
            have A3 := Hid.mk (blk_below A3.out hb2)
            (try have AM := Hid.mk (blk_below AM.out hb2))
            refine hK.out _ _ ?_ (fun hHeld => ?_)
            · exact ⟨cell_keep hb2 hHeld.1, cell_keep hb2 hHeld.2.1, cell_keep hb2 hHeld.2.2.1, cell_keep hb2 hHeld.2.2.2.1, cell_keep hb2 hHeld.2.2.2.2.1, cell_keep hb2 hHeld.2.2.2.2.2.1, cell_keep hb2 hHeld.2.2.2.2.2.2.1, cell_keep hb2 hHeld.2.2.2.2.2.2.2.1, cell_keep hb2 hHeld.2.2.2.2.2.2.2.2.1, cell_keep hb2 hHeld.2.2.2.2.2.2.2.2.2.1, cell_keep hb2 hHeld.2.2.2.2.2.2.2.2.2.2.1, cell_keep hb2 hHeld.2.2.2.2.2.2.2.2.2.2.2.1, cell_keep hb2 hHeld.2.2.2.2.2.2.2.2.2.2.2.2⟩
            clear hK K
            (try simp only [Act.put, List.setIfInBounds_toArray, List.set_cons_zero, List.set_cons_succ, List.getElem_toArray, List.getElem_cons_zero, List.getElem_cons_succ])
            refine wpAnyH_ready (rs := [7, 20]) (by kernel_rfl) (by simp) ?_
            refine AllReadyH.cons rfl (fun K hK => ?_) ?_
            · go_simp
              refine (overS s2 (some ⟨g2, 0, none⟩) S.n2 t2 13 (lst S.n2 S.L2) (nextL I u S u) _ (lst_len _ _).symm rfl (li_lst (HS.out.below HB.out).s2) HL.out (by have := R.out.l2; have := (StV.co_bd R.out.co).1; omega) hcap j2).mono ?_
              rintro e w3 ⟨g3, c3', rfl, hl3, hb3, hg3, -⟩
              have HO := Hid.mk hl3
              have HBo := HB
              have HB := Hid.mk (below_then HB.out hb3)
              have A0 := Hid.mk (blk_below A0.out hb3)
              have A2 := Hid.mk (blk_below A2.out hb3)
              have A3 := Hid.mk (blk_below A3.out hb3)
              (try have AM := Hid.mk (blk_below AM.out hb3))
              refine hK.out _ _ ?_ (fun hHeld => ?_)
              · exact ⟨cell_keep hb3 hHeld.1, cell_keep hb3 hHeld.2.1, cell_keep hb3 hHeld.2.2.1, cell_keep hb3 hHeld.2.2.2.1, cell_keep hb3 hHeld.2.2.2.2.1, cell_keep hb3 hHeld.2.2.2.2.2.1, cell_keep hb3 hHeld.2.2.2.2.2.2.1, cell_keep hb3 hHeld.2.2.2.2.2.2.2.1, cell_keep hb3 hHeld.2.2.2.2.2.2.2.2.1, cell_keep hb3 hHeld.2.2.2.2.2.2.2.2.2.1, cell_keep hb3 hHeld.2.2.2.2.2.2.2.2.2.2.1, cell_keep hb3 hHeld.2.2.2.2.2.2.2.2.2.2.2.1, cell_keep hb3 hHeld.2.2.2.2.2.2.2.2.2.2.2.2⟩
              clear hK K
              (try simp only [Act.put, List.setIfInBounds_toArray, List.set_cons_zero, List.set_cons_succ, List.getElem_toArray, List.getElem_cons_zero, List.getElem_cons_succ])
              refine wpAnyH_ready (rs := [19, 20]) (by kernel_rfl) (by simp) ?_
              refine AllReadyH.cons rfl (fun K hK => ?_) ?_
              · go_simp
                refine hK.out _ _ ?_ (fun hHeld => ?_)
                · first | exact hHeld | go_keep
                clear hK K
                (try simp only [Act.put, List.setIfInBounds_toArray, List.set_cons_zero, List.set_cons_succ, List.getElem_toArray, List.getElem_cons_zero, List.getElem_cons_succ])
                refine wpAnyH_ready (rs := [20]) (by kernel_rfl) (by simp) ?_
                refine AllReadyH.cons rfl (fun K hK => ?_) ?_
                · go_simp
                  have hM := Hid.mk (blk_lt A3.out)
                  have AM := Hid.mk (blk_of HB.out (.cells #[.slice none 0 0, .slice none 0 0, .int .i64 0, .int .i64 0, .int .i64 0, .int .i64 0, .int .i64 0] 83))
                  have HBo := HB
                  have HB := Hid.mk (HB.out.alloc HB.out.size (.cells #[.slice none 0 0, .slice none 0 0, .int .i64 0, .int .i64 0, .int .i64 0, .int .i64 0, .int .i64 0] 83))
                  have A0 := Hid.mk (blk_alloc A0.out (.cells #[.slice none 0 0, .slice none 0 0, .int .i64 0, .int .i64 0, .int .i64 0, .int .i64 0, .int .i64 0] 83))
                  have A2 := Hid.mk (blk_alloc A2.out (.cells #[.slice none 0 0, .slice none 0 0, .int .i64 0, .int .i64 0, .int .i64 0, .int .i64 0, .int .i64 0] 83))
                  have A3 := Hid.mk (blk_alloc A3.out (.cells #[.slice none 0 0, .slice none 0 0, .int .i64 0, .int .i64 0, .int .i64 0, .int .i64 0, .int .i64 0] 83))
                  (try have HL := Hid.mk (HL.out.below ((Below.refl _ _).alloc (Nat.le_refl _) (.cells #[.slice none 0 0, .slice none 0 0, .int .i64 0, .int .i64 0, .int .i64 0, .int .i64 0, .int .i64 0] 83))))
                  (try have HO := Hid.mk (HO.out.below ((Below.refl _ _).alloc (Nat.le_refl _) (.cells #[.slice none 0 0, .slice none 0 0, .int .i64 0, .int .i64 0, .int .i64 0, .int .i64 0, .int .i64 0] 83))))
                  refine hK.out _ _ ?_ (fun hHeld => ?_)
                  · exact ⟨cell_alloc' hHeld.1 _, cell_alloc' hHeld.2.1 _, cell_alloc' hHeld.2.2.1 _, cell_alloc' hHeld.2.2.2.1 _, cell_alloc' hHeld.2.2.2.2.1 _, cell_alloc' hHeld.2.2.2.2.2.1 _, cell_alloc' hHeld.2.2.2.2.2.2.1 _, cell_alloc' hHeld.2.2.2.2.2.2.2.1 _, cell_alloc' hHeld.2.2.2.2.2.2.2.2.1 _, cell_alloc' hHeld.2.2.2.2.2.2.2.2.2.1 _, cell_alloc' hHeld.2.2.2.2.2.2.2.2.2.2.1 _, cell_alloc' hHeld.2.2.2.2.2.2.2.2.2.2.2.1 _, cell_alloc' hHeld.2.2.2.2.2.2.2.2.2.2.2.2 _⟩
                  clear hK K
                  (try simp only [Act.put, List.setIfInBounds_toArray, List.set_cons_zero, List.set_cons_succ, List.getElem_toArray, List.getElem_cons_zero, List.getElem_cons_succ])
                  refine wpAnyH_ready (rs := [21]) (by kernel_rfl) (by simp) ?_
                  refine AllReadyH.cons rfl (fun K hK => ?_) ?_
                  · rw [if_pos (by rfl)]
                    have hne := Hid.mk (li_ne (x := .slice none 0 0) HO.out (by simp [nextL]) AM.out (fun z => by simp))
                    refine wp_store_row _ _ _ rfl _ #[.slice (some ⟨g3, 0, none⟩) S.n2 c3', .slice s3 S.n3 t3, .int .i64 0, .int .i64 (I.V u).b, .int .i64 (-1), .int .i64 (I.nQ : Int), .int .i64 (-1)] rfl rfl _ _ AM.out infoMm rfl (by simp [Value.oneCell']) ?_
                    refine hK.out _ _ ?_ (fun hHeld => ?_)
                    · exact ⟨cell_srow hHeld.1 (by have h1 := hM.out; have h2 := hgv.out; first | omega | (have h3 := lt_drew h1; omega)), cell_srow hHeld.2.1 (by have h1 := hM.out; have h2 := hgv.out; first | omega | (have h3 := lt_drew h1; omega)), cell_srow hHeld.2.2.1 (by have h1 := hM.out; have h2 := hgv.out; first | omega | (have h3 := lt_drew h1; omega)), cell_srow hHeld.2.2.2.1 (by have h1 := hM.out; have h2 := hgv.out; first | omega | (have h3 := lt_drew h1; omega)), cell_srow hHeld.2.2.2.2.1 (by have h1 := hM.out; have h2 := hgv.out; first | omega | (have h3 := lt_drew h1; omega)), cell_srow hHeld.2.2.2.2.2.1 (by have h1 := hM.out; have h2 := hgv.out; first | omega | (have h3 := lt_drew h1; omega)), cell_srow hHeld.2.2.2.2.2.2.1 (by have h1 := hM.out; have h2 := hgv.out; first | omega | (have h3 := lt_drew h1; omega)), cell_srow hHeld.2.2.2.2.2.2.2.1 (by have h1 := hM.out; have h2 := hgv.out; first | omega | (have h3 := lt_drew h1; omega)), cell_srow hHeld.2.2.2.2.2.2.2.2.1 (by have h1 := hM.out; have h2 := hgv.out; first | omega | (have h3 := lt_drew h1; omega)), cell_srow hHeld.2.2.2.2.2.2.2.2.2.1 (by have h1 := hM.out; have h2 := hgv.out; first | omega | (have h3 := lt_drew h1; omega)), cell_srow hHeld.2.2.2.2.2.2.2.2.2.2.1 (by have h1 := hM.out; have h2 := hgv.out; first | omega | (have h3 := lt_drew h1; omega)), cell_srow hHeld.2.2.2.2.2.2.2.2.2.2.2.1 (by have h1 := hM.out; have h2 := hgv.out; first | omega | (have h3 := lt_drew h1; omega)), cell_srow hHeld.2.2.2.2.2.2.2.2.2.2.2.2 (by have h1 := hM.out; have h2 := hgv.out; first | omega | (have h3 := lt_drew h1; omega))⟩
                    clear hK K
                    (try simp only [Act.put, List.setIfInBounds_toArray, List.set_cons_zero, List.set_cons_succ, List.getElem_toArray, List.getElem_cons_zero, List.getElem_cons_succ])
                    refine wpAnyH_done (by kernel_rfl) ?_ _
                    go_wp2_with fail
                    go_meet
                    exact ⟨_, g3, c3', rfl, Hid.mk (by first | exact hM.out | exact lt_drew hM.out), Hid.mk (srow_below HB.out (by have h1 := hM.out; first | omega | (have h3 := lt_drew h1; omega)) _), Hid.mk (srow_self AM.out _), Hid.mk (srow_li HO.out hne.out _), Hid.mk (srow_other A0.out (by have h1 := hM.out; first | omega | (have h3 := lt_drew h1; omega)) _), Hid.mk (srow_other A2.out (by have h1 := hM.out; first | omega | (have h3 := lt_drew h1; omega)) _), Hid.mk (srow_other A3.out (by have h1 := hM.out; first | omega | (have h3 := lt_drew h1; omega)) _)⟩
                  exact AllReadyH.nil
                exact AllReadyH.nil
              refine AllReadyH.cons rfl (fun K hK => ?_) ?_
              · go_simp
                have hM := Hid.mk (blk_lt A3.out)
                have AM := Hid.mk (blk_of HB.out (.cells #[.slice none 0 0, .slice none 0 0, .int .i64 0, .int .i64 0, .int .i64 0, .int .i64 0, .int .i64 0] 83))
                have HBo := HB
                have HB := Hid.mk (HB.out.alloc HB.out.size (.cells #[.slice none 0 0, .slice none 0 0, .int .i64 0, .int .i64 0, .int .i64 0, .int .i64 0, .int .i64 0] 83))
                have A0 := Hid.mk (blk_alloc A0.out (.cells #[.slice none 0 0, .slice none 0 0, .int .i64 0, .int .i64 0, .int .i64 0, .int .i64 0, .int .i64 0] 83))
                have A2 := Hid.mk (blk_alloc A2.out (.cells #[.slice none 0 0, .slice none 0 0, .int .i64 0, .int .i64 0, .int .i64 0, .int .i64 0, .int .i64 0] 83))
                have A3 := Hid.mk (blk_alloc A3.out (.cells #[.slice none 0 0, .slice none 0 0, .int .i64 0, .int .i64 0, .int .i64 0, .int .i64 0, .int .i64 0] 83))
                (try have HL := Hid.mk (HL.out.below ((Below.refl _ _).alloc (Nat.le_refl _) (.cells #[.slice none 0 0, .slice none 0 0, .int .i64 0, .int .i64 0, .int .i64 0, .int .i64 0, .int .i64 0] 83))))
                (try have HO := Hid.mk (HO.out.below ((Below.refl _ _).alloc (Nat.le_refl _) (.cells #[.slice none 0 0, .slice none 0 0, .int .i64 0, .int .i64 0, .int .i64 0, .int .i64 0, .int .i64 0] 83))))
                refine hK.out _ _ ?_ (fun hHeld => ?_)
                · exact ⟨cell_alloc' hHeld.1 _, cell_alloc' hHeld.2.1 _, cell_alloc' hHeld.2.2.1 _, cell_alloc' hHeld.2.2.2.1 _, cell_alloc' hHeld.2.2.2.2.1 _, cell_alloc' hHeld.2.2.2.2.2.1 _, cell_alloc' hHeld.2.2.2.2.2.2.1 _, cell_alloc' hHeld.2.2.2.2.2.2.2.1 _, cell_alloc' hHeld.2.2.2.2.2.2.2.2.1 _, cell_alloc' hHeld.2.2.2.2.2.2.2.2.2.1 _, cell_alloc' hHeld.2.2.2.2.2.2.2.2.2.2.1 _, cell_alloc' hHeld.2.2.2.2.2.2.2.2.2.2.2.1 _, cell_alloc' hHeld.2.2.2.2.2.2.2.2.2.2.2.2 _⟩
                clear hK K
                (try simp only [Act.put, List.setIfInBounds_toArray, List.set_cons_zero, List.set_cons_succ, List.getElem_toArray, List.getElem_cons_zero, List.getElem_cons_succ])
                refine wpAnyH_ready (rs := [19]) (by kernel_rfl) (by simp) ?_
                refine AllReadyH.cons rfl (fun K hK => ?_) ?_
                · go_simp
                  refine hK.out _ _ ?_ (fun hHeld => ?_)
                  · first | exact hHeld | go_keep
                  clear hK K
                  (try simp only [Act.put, List.setIfInBounds_toArray, List.set_cons_zero, List.set_cons_succ, List.getElem_toArray, List.getElem_cons_zero, List.getElem_cons_succ])
                  refine wpAnyH_ready (rs := [21]) (by kernel_rfl) (by simp) ?_
                  refine AllReadyH.cons rfl (fun K hK => ?_) ?_
                  · rw [if_pos (by rfl)]
                    have hne := Hid.mk (li_ne (x := .slice none 0 0) HO.out (by simp [nextL]) AM.out (fun z => by simp))
                    refine wp_store_row _ _ _ rfl _ #[.slice (some ⟨g3, 0, none⟩) S.n2 c3', .slice s3 S.n3 t3, .int .i64 0, .int .i64 (I.V u).b, .int .i64 (-1), .int .i64 (I.nQ : Int), .int .i64 (-1)] rfl rfl _ _ AM.out infoMm rfl (by simp [Value.oneCell']) ?_
                    refine hK.out _ _ ?_ (fun hHeld => ?_)
                    · exact ⟨cell_srow hHeld.1 (by have h1 := hM.out; have h2 := hgv.out; first | omega | (have h3 := lt_drew h1; omega)), cell_srow hHeld.2.1 (by have h1 := hM.out; have h2 := hgv.out; first | omega | (have h3 := lt_drew h1; omega)), cell_srow hHeld.2.2.1 (by have h1 := hM.out; have h2 := hgv.out; first | omega | (have h3 := lt_drew h1; omega)), cell_srow hHeld.2.2.2.1 (by have h1 := hM.out; have h2 := hgv.out; first | omega | (have h3 := lt_drew h1; omega)), cell_srow hHeld.2.2.2.2.1 (by have h1 := hM.out; have h2 := hgv.out; first | omega | (have h3 := lt_drew h1; omega)), cell_srow hHeld.2.2.2.2.2.1 (by have h1 := hM.out; have h2 := hgv.out; first | omega | (have h3 := lt_drew h1; omega)), cell_srow hHeld.2.2.2.2.2.2.1 (by have h1 := hM.out; have h2 := hgv.out; first | omega | (have h3 := lt_drew h1; omega)), cell_srow hHeld.2.2.2.2.2.2.2.1 (by have h1 := hM.out; have h2 := hgv.out; first | omega | (have h3 := lt_drew h1; omega)), cell_srow hHeld.2.2.2.2.2.2.2.2.1 (by have h1 := hM.out; have h2 := hgv.out; first | omega | (have h3 := lt_drew h1; omega)), cell_srow hHeld.2.2.2.2.2.2.2.2.2.1 (by have h1 := hM.out; have h2 := hgv.out; first | omega | (have h3 := lt_drew h1; omega)), cell_srow hHeld.2.2.2.2.2.2.2.2.2.2.1 (by have h1 := hM.out; have h2 := hgv.out; first | omega | (have h3 := lt_drew h1; omega)), cell_srow hHeld.2.2.2.2.2.2.2.2.2.2.2.1 (by have h1 := hM.out; have h2 := hgv.out; first | omega | (have h3 := lt_drew h1; omega)), cell_srow hHeld.2.2.2.2.2.2.2.2.2.2.2.2 (by have h1 := hM.out; have h2 := hgv.out; first | omega | (have h3 := lt_drew h1; omega))⟩
                    clear hK K
                    (try simp only [Act.put, List.setIfInBounds_toArray, List.set_cons_zero, List.set_cons_succ, List.getElem_toArray, List.getElem_cons_zero, List.getElem_cons_succ])
                    refine wpAnyH_done (by kernel_rfl) ?_ _
                    go_wp2_with fail
                    go_meet
                    exact ⟨_, g3, c3', rfl, Hid.mk (by first | exact hM.out | exact lt_drew hM.out), Hid.mk (srow_below HB.out (by have h1 := hM.out; first | omega | (have h3 := lt_drew h1; omega)) _), Hid.mk (srow_self AM.out _), Hid.mk (srow_li HO.out hne.out _), Hid.mk (srow_other A0.out (by have h1 := hM.out; first | omega | (have h3 := lt_drew h1; omega)) _), Hid.mk (srow_other A2.out (by have h1 := hM.out; first | omega | (have h3 := lt_drew h1; omega)) _), Hid.mk (srow_other A3.out (by have h1 := hM.out; first | omega | (have h3 := lt_drew h1; omega)) _)⟩
                  exact AllReadyH.nil
                exact AllReadyH.nil
              exact AllReadyH.nil
            refine AllReadyH.cons rfl (fun K hK => ?_) ?_
            · go_simp
              have hM := Hid.mk (blk_lt A3.out)
              have AM := Hid.mk (blk_of HB.out (.cells #[.slice none 0 0, .slice none 0 0, .int .i64 0, .int .i64 0, .int .i64 0, .int .i64 0, .int .i64 0] 83))
              have HBo := HB
              have HB := Hid.mk (HB.out.alloc HB.out.size (.cells #[.slice none 0 0, .slice none 0 0, .int .i64 0, .int .i64 0, .int .i64 0, .int .i64 0, .int .i64 0] 83))
              have A0 := Hid.mk (blk_alloc A0.out (.cells #[.slice none 0 0, .slice none 0 0, .int .i64 0, .int .i64 0, .int .i64 0, .int .i64 0, .int .i64 0] 83))
              have A2 := Hid.mk (blk_alloc A2.out (.cells #[.slice none 0 0, .slice none 0 0, .int .i64 0, .int .i64 0, .int .i64 0, .int .i64 0, .int .i64 0] 83))
              have A3 := Hid.mk (blk_alloc A3.out (.cells #[.slice none 0 0, .slice none 0 0, .int .i64 0, .int .i64 0, .int .i64 0, .int .i64 0, .int .i64 0] 83))
              (try have HL := Hid.mk (HL.out.below ((Below.refl _ _).alloc (Nat.le_refl _) (.cells #[.slice none 0 0, .slice none 0 0, .int .i64 0, .int .i64 0, .int .i64 0, .int .i64 0, .int .i64 0] 83))))
              (try have HO := Hid.mk (HO.out.below ((Below.refl _ _).alloc (Nat.le_refl _) (.cells #[.slice none 0 0, .slice none 0 0, .int .i64 0, .int .i64 0, .int .i64 0, .int .i64 0, .int .i64 0] 83))))
              refine hK.out _ _ ?_ (fun hHeld => ?_)
              · exact ⟨cell_alloc' hHeld.1 _, cell_alloc' hHeld.2.1 _, cell_alloc' hHeld.2.2.1 _, cell_alloc' hHeld.2.2.2.1 _, cell_alloc' hHeld.2.2.2.2.1 _, cell_alloc' hHeld.2.2.2.2.2.1 _, cell_alloc' hHeld.2.2.2.2.2.2.1 _, cell_alloc' hHeld.2.2.2.2.2.2.2.1 _, cell_alloc' hHeld.2.2.2.2.2.2.2.2.1 _, cell_alloc' hHeld.2.2.2.2.2.2.2.2.2.1 _, cell_alloc' hHeld.2.2.2.2.2.2.2.2.2.2.1 _, cell_alloc' hHeld.2.2.2.2.2.2.2.2.2.2.2.1 _, cell_alloc' hHeld.2.2.2.2.2.2.2.2.2.2.2.2 _⟩
              clear hK K
              (try simp only [Act.put, List.setIfInBounds_toArray, List.set_cons_zero, List.set_cons_succ, List.getElem_toArray, List.getElem_cons_zero, List.getElem_cons_succ])
              refine wpAnyH_ready (rs := [7]) (by kernel_rfl) (by simp) ?_
              refine AllReadyH.cons rfl (fun K hK => ?_) ?_
              · go_simp
                refine (overS s2 (some ⟨g2, 0, none⟩) S.n2 t2 13 (lst S.n2 S.L2) (nextL I u S u) _ (lst_len _ _).symm rfl (li_lst (HS.out.below HB.out).s2) HL.out (by have := R.out.l2; have := (StV.co_bd R.out.co).1; omega) hcap j2).mono ?_
                rintro e w3 ⟨g3, c3', rfl, hl3, hb3, hg3, -⟩
                have HO := Hid.mk hl3
                have HBo := HB
                have HB := Hid.mk (below_then HB.out hb3)
                have A0 := Hid.mk (blk_below A0.out hb3)
                have A2 := Hid.mk (blk_below A2.out hb3)
                have A3 := Hid.mk (blk_below A3.out hb3)
                (try have AM := Hid.mk (blk_below AM.out hb3))
                refine hK.out _ _ ?_ (fun hHeld => ?_)
                · exact ⟨cell_keep hb3 hHeld.1, cell_keep hb3 hHeld.2.1, cell_keep hb3 hHeld.2.2.1, cell_keep hb3 hHeld.2.2.2.1, cell_keep hb3 hHeld.2.2.2.2.1, cell_keep hb3 hHeld.2.2.2.2.2.1, cell_keep hb3 hHeld.2.2.2.2.2.2.1, cell_keep hb3 hHeld.2.2.2.2.2.2.2.1, cell_keep hb3 hHeld.2.2.2.2.2.2.2.2.1, cell_keep hb3 hHeld.2.2.2.2.2.2.2.2.2.1, cell_keep hb3 hHeld.2.2.2.2.2.2.2.2.2.2.1, cell_keep hb3 hHeld.2.2.2.2.2.2.2.2.2.2.2.1, cell_keep hb3 hHeld.2.2.2.2.2.2.2.2.2.2.2.2⟩
                clear hK K
                (try simp only [Act.put, List.setIfInBounds_toArray, List.set_cons_zero, List.set_cons_succ, List.getElem_toArray, List.getElem_cons_zero, List.getElem_cons_succ])
                refine wpAnyH_ready (rs := [19]) (by kernel_rfl) (by simp) ?_
                refine AllReadyH.cons rfl (fun K hK => ?_) ?_
                · go_simp
                  refine hK.out _ _ ?_ (fun hHeld => ?_)
                  · first | exact hHeld | go_keep
                  clear hK K
                  (try simp only [Act.put, List.setIfInBounds_toArray, List.set_cons_zero, List.set_cons_succ, List.getElem_toArray, List.getElem_cons_zero, List.getElem_cons_succ])
                  refine wpAnyH_ready (rs := [21]) (by kernel_rfl) (by simp) ?_
                  refine AllReadyH.cons rfl (fun K hK => ?_) ?_
                  · rw [if_pos (by rfl)]
                    have hne := Hid.mk (li_ne (x := .slice none 0 0) HO.out (by simp [nextL]) AM.out (fun z => by simp))
                    refine wp_store_row _ _ _ rfl _ #[.slice (some ⟨g3, 0, none⟩) S.n2 c3', .slice s3 S.n3 t3, .int .i64 0, .int .i64 (I.V u).b, .int .i64 (-1), .int .i64 (I.nQ : Int), .int .i64 (-1)] rfl rfl _ _ AM.out infoMm rfl (by simp [Value.oneCell']) ?_
                    refine hK.out _ _ ?_ (fun hHeld => ?_)
                    · exact ⟨cell_srow hHeld.1 (by have h1 := hM.out; have h2 := hgv.out; first | omega | (have h3 := lt_drew h1; omega)), cell_srow hHeld.2.1 (by have h1 := hM.out; have h2 := hgv.out; first | omega | (have h3 := lt_drew h1; omega)), cell_srow hHeld.2.2.1 (by have h1 := hM.out; have h2 := hgv.out; first | omega | (have h3 := lt_drew h1; omega)), cell_srow hHeld.2.2.2.1 (by have h1 := hM.out; have h2 := hgv.out; first | omega | (have h3 := lt_drew h1; omega)), cell_srow hHeld.2.2.2.2.1 (by have h1 := hM.out; have h2 := hgv.out; first | omega | (have h3 := lt_drew h1; omega)), cell_srow hHeld.2.2.2.2.2.1 (by have h1 := hM.out; have h2 := hgv.out; first | omega | (have h3 := lt_drew h1; omega)), cell_srow hHeld.2.2.2.2.2.2.1 (by have h1 := hM.out; have h2 := hgv.out; first | omega | (have h3 := lt_drew h1; omega)), cell_srow hHeld.2.2.2.2.2.2.2.1 (by have h1 := hM.out; have h2 := hgv.out; first | omega | (have h3 := lt_drew h1; omega)), cell_srow hHeld.2.2.2.2.2.2.2.2.1 (by have h1 := hM.out; have h2 := hgv.out; first | omega | (have h3 := lt_drew h1; omega)), cell_srow hHeld.2.2.2.2.2.2.2.2.2.1 (by have h1 := hM.out; have h2 := hgv.out; first | omega | (have h3 := lt_drew h1; omega)), cell_srow hHeld.2.2.2.2.2.2.2.2.2.2.1 (by have h1 := hM.out; have h2 := hgv.out; first | omega | (have h3 := lt_drew h1; omega)), cell_srow hHeld.2.2.2.2.2.2.2.2.2.2.2.1 (by have h1 := hM.out; have h2 := hgv.out; first | omega | (have h3 := lt_drew h1; omega)), cell_srow hHeld.2.2.2.2.2.2.2.2.2.2.2.2 (by have h1 := hM.out; have h2 := hgv.out; first | omega | (have h3 := lt_drew h1; omega))⟩
                    clear hK K
                    (try simp only [Act.put, List.setIfInBounds_toArray, List.set_cons_zero, List.set_cons_succ, List.getElem_toArray, List.getElem_cons_zero, List.getElem_cons_succ])
                    refine wpAnyH_done (by kernel_rfl) ?_ _
                    go_wp2_with fail
                    go_meet
                    exact ⟨_, g3, c3', rfl, Hid.mk (by first | exact hM.out | exact lt_drew hM.out), Hid.mk (srow_below HB.out (by have h1 := hM.out; first | omega | (have h3 := lt_drew h1; omega)) _), Hid.mk (srow_self AM.out _), Hid.mk (srow_li HO.out hne.out _), Hid.mk (srow_other A0.out (by have h1 := hM.out; first | omega | (have h3 := lt_drew h1; omega)) _), Hid.mk (srow_other A2.out (by have h1 := hM.out; first | omega | (have h3 := lt_drew h1; omega)) _), Hid.mk (srow_other A3.out (by have h1 := hM.out; first | omega | (have h3 := lt_drew h1; omega)) _)⟩
                  exact AllReadyH.nil
                exact AllReadyH.nil
              exact AllReadyH.nil
            exact AllReadyH.nil
          refine AllReadyH.cons rfl (fun K hK => ?_) ?_
          · go_simp
            have hM := Hid.mk (blk_lt A3.out)
            have AM := Hid.mk (blk_of HB.out (.cells #[.slice none 0 0, .slice none 0 0, .int .i64 0, .int .i64 0, .int .i64 0, .int .i64 0, .int .i64 0] 83))
            have HBo := HB
            have HB := Hid.mk (HB.out.alloc HB.out.size (.cells #[.slice none 0 0, .slice none 0 0, .int .i64 0, .int .i64 0, .int .i64 0, .int .i64 0, .int .i64 0] 83))
            have A0 := Hid.mk (blk_alloc A0.out (.cells #[.slice none 0 0, .slice none 0 0, .int .i64 0, .int .i64 0, .int .i64 0, .int .i64 0, .int .i64 0] 83))
            have A2 := Hid.mk (blk_alloc A2.out (.cells #[.slice none 0 0, .slice none 0 0, .int .i64 0, .int .i64 0, .int .i64 0, .int .i64 0, .int .i64 0] 83))
            have A3 := Hid.mk (blk_alloc A3.out (.cells #[.slice none 0 0, .slice none 0 0, .int .i64 0, .int .i64 0, .int .i64 0, .int .i64 0, .int .i64 0] 83))
            (try have HL := Hid.mk (HL.out.below ((Below.refl _ _).alloc (Nat.le_refl _) (.cells #[.slice none 0 0, .slice none 0 0, .int .i64 0, .int .i64 0, .int .i64 0, .int .i64 0, .int .i64 0] 83))))
            (try have HO := Hid.mk (HO.out.below ((Below.refl _ _).alloc (Nat.le_refl _) (.cells #[.slice none 0 0, .slice none 0 0, .int .i64 0, .int .i64 0, .int .i64 0, .int .i64 0, .int .i64 0] 83))))
            refine hK.out _ _ ?_ (fun hHeld => ?_)
            · exact ⟨cell_alloc' hHeld.1 _, cell_alloc' hHeld.2.1 _, cell_alloc' hHeld.2.2.1 _, cell_alloc' hHeld.2.2.2.1 _, cell_alloc' hHeld.2.2.2.2.1 _, cell_alloc' hHeld.2.2.2.2.2.1 _, cell_alloc' hHeld.2.2.2.2.2.2.1 _, cell_alloc' hHeld.2.2.2.2.2.2.2.1 _, cell_alloc' hHeld.2.2.2.2.2.2.2.2.1 _, cell_alloc' hHeld.2.2.2.2.2.2.2.2.2.1 _, cell_alloc' hHeld.2.2.2.2.2.2.2.2.2.2.1 _, cell_alloc' hHeld.2.2.2.2.2.2.2.2.2.2.2.1 _, cell_alloc' hHeld.2.2.2.2.2.2.2.2.2.2.2.2 _⟩
            clear hK K
            (try simp only [Act.put, List.setIfInBounds_toArray, List.set_cons_zero, List.set_cons_succ, List.getElem_toArray, List.getElem_cons_zero, List.getElem_cons_succ])
            refine wpAnyH_ready (rs := [6]) (by kernel_rfl) (by simp) ?_
            refine AllReadyH.cons rfl (fun K hK => ?_) ?_
            · go_simp
              refine (nextS (some ⟨gv, ov, none⟩) b2 b3 d1 d2 d3 I u S.p S.r S.d S.t S.s S.l (u : Int) s1 s2 s3 S.n1 t1 S.n2 t2 S.n3 t3 _ (HI.out.below HB.out) R.out.val (lens_bd (validB_parts R.out.val).1).1 (lens_bd (validB_parts R.out.val).1).2.1 hu R.out.d0 R.out.d1 hu0 (by unfold nodes; omega) R.out.p0 (by have := R.out.p1; omega) _ _ _ _ _ _ _ _ _ _ _ rfl rfl rfl rfl rfl rfl rfl rfl rfl rfl rfl (by have := (plOf_ok' R.out.val (n := (u : Int)) hu0 (by unfold nodes; omega)).o0; omega) (by have q := plOf_ok' R.out.val (n := (u : Int)) hu0 (by unfold nodes; omega); have q1 := q.oc; have q2 := q.c1; omega) (size_bd R.out.val _).1 (by have := (size_bd R.out.val (u : Int)).2; omega)).mono ?_
              rintro e w2 ⟨g2, rfl, hl2, hb2, -⟩
              have HL : Hid (Li w2 (some ⟨g2, 0, none⟩) (nextL I u S u)) := hl2
              have HBo := HB
              have HB := Hid.mk (below_then HB.out hb2)
              have A0 := Hid.mk (blk_below A0.out hb2)
              have A2 := Hid.mk (blk_below A2.out hb2)
              have A3 := Hid.mk (blk_below A3.out hb2)
              (try have AM := Hid.mk (blk_below AM.out hb2))
              refine hK.out _ _ ?_ (fun hHeld => ?_)
              · exact ⟨cell_keep hb2 hHeld.1, cell_keep hb2 hHeld.2.1, cell_keep hb2 hHeld.2.2.1, cell_keep hb2 hHeld.2.2.2.1, cell_keep hb2 hHeld.2.2.2.2.1, cell_keep hb2 hHeld.2.2.2.2.2.1, cell_keep hb2 hHeld.2.2.2.2.2.2.1, cell_keep hb2 hHeld.2.2.2.2.2.2.2.1, cell_keep hb2 hHeld.2.2.2.2.2.2.2.2.1, cell_keep hb2 hHeld.2.2.2.2.2.2.2.2.2.1, cell_keep hb2 hHeld.2.2.2.2.2.2.2.2.2.2.1, cell_keep hb2 hHeld.2.2.2.2.2.2.2.2.2.2.2.1, cell_keep hb2 hHeld.2.2.2.2.2.2.2.2.2.2.2.2⟩
              clear hK K
              (try simp only [Act.put, List.setIfInBounds_toArray, List.set_cons_zero, List.set_cons_succ, List.getElem_toArray, List.getElem_cons_zero, List.getElem_cons_succ])
              refine wpAnyH_ready (rs := [7]) (by kernel_rfl) (by simp) ?_
              refine AllReadyH.cons rfl (fun K hK => ?_) ?_
              · go_simp
                refine (overS s2 (some ⟨g2, 0, none⟩) S.n2 t2 13 (lst S.n2 S.L2) (nextL I u S u) _ (lst_len _ _).symm rfl (li_lst (HS.out.below HB.out).s2) HL.out (by have := R.out.l2; have := (StV.co_bd R.out.co).1; omega) hcap j2).mono ?_
                rintro e w3 ⟨g3, c3', rfl, hl3, hb3, hg3, -⟩
                have HO := Hid.mk hl3
                have HBo := HB
                have HB := Hid.mk (below_then HB.out hb3)
                have A0 := Hid.mk (blk_below A0.out hb3)
                have A2 := Hid.mk (blk_below A2.out hb3)
                have A3 := Hid.mk (blk_below A3.out hb3)
                (try have AM := Hid.mk (blk_below AM.out hb3))
                refine hK.out _ _ ?_ (fun hHeld => ?_)
                · exact ⟨cell_keep hb3 hHeld.1, cell_keep hb3 hHeld.2.1, cell_keep hb3 hHeld.2.2.1, cell_keep hb3 hHeld.2.2.2.1, cell_keep hb3 hHeld.2.2.2.2.1, cell_keep hb3 hHeld.2.2.2.2.2.1, cell_keep hb3 hHeld.2.2.2.2.2.2.1, cell_keep hb3 hHeld.2.2.2.2.2.2.2.1, cell_keep hb3 hHeld.2.2.2.2.2.2.2.2.1, cell_keep hb3 hHeld.2.2.2.2.2.2.2.2.2.1, cell_keep hb3 hHeld.2.2.2.2.2.2.2.2.2.2.1, cell_keep hb3 hHeld.2.2.2.2.2.2.2.2.2.2.2.1, cell_keep hb3 hHeld.2.2.2.2.2.2.2.2.2.2.2.2⟩
                clear hK K
                (try simp only [Act.put, List.setIfInBounds_toArray, List.set_cons_zero, List.set_cons_succ, List.getElem_toArray, List.getElem_cons_zero, List.getElem_cons_succ])
                refine wpAnyH_ready (rs := [19]) (by kernel_rfl) (by simp) ?_
                refine AllReadyH.cons rfl (fun K hK => ?_) ?_
                · go_simp
                  refine hK.out _ _ ?_ (fun hHeld => ?_)
                  · first | exact hHeld | go_keep
                  clear hK K
                  (try simp only [Act.put, List.setIfInBounds_toArray, List.set_cons_zero, List.set_cons_succ, List.getElem_toArray, List.getElem_cons_zero, List.getElem_cons_succ])
                  refine wpAnyH_ready (rs := [21]) (by kernel_rfl) (by simp) ?_
                  refine AllReadyH.cons rfl (fun K hK => ?_) ?_
                  · rw [if_pos (by rfl)]
                    have hne := Hid.mk (li_ne (x := .slice none 0 0) HO.out (by simp [nextL]) AM.out (fun z => by simp))
                    refine wp_store_row _ _ _ rfl _ #[.slice (some ⟨g3, 0, none⟩) S.n2 c3', .slice s3 S.n3 t3, .int .i64 0, .int .i64 (I.V u).b, .int .i64 (-1), .int .i64 (I.nQ : Int), .int .i64 (-1)] rfl rfl _ _ AM.out infoMm rfl (by simp [Value.oneCell']) ?_
                    refine hK.out _ _ ?_ (fun hHeld => ?_)
                    · exact ⟨cell_srow hHeld.1 (by have h1 := hM.out; have h2 := hgv.out; first | omega | (have h3 := lt_drew h1; omega)), cell_srow hHeld.2.1 (by have h1 := hM.out; have h2 := hgv.out; first | omega | (have h3 := lt_drew h1; omega)), cell_srow hHeld.2.2.1 (by have h1 := hM.out; have h2 := hgv.out; first | omega | (have h3 := lt_drew h1; omega)), cell_srow hHeld.2.2.2.1 (by have h1 := hM.out; have h2 := hgv.out; first | omega | (have h3 := lt_drew h1; omega)), cell_srow hHeld.2.2.2.2.1 (by have h1 := hM.out; have h2 := hgv.out; first | omega | (have h3 := lt_drew h1; omega)), cell_srow hHeld.2.2.2.2.2.1 (by have h1 := hM.out; have h2 := hgv.out; first | omega | (have h3 := lt_drew h1; omega)), cell_srow hHeld.2.2.2.2.2.2.1 (by have h1 := hM.out; have h2 := hgv.out; first | omega | (have h3 := lt_drew h1; omega)), cell_srow hHeld.2.2.2.2.2.2.2.1 (by have h1 := hM.out; have h2 := hgv.out; first | omega | (have h3 := lt_drew h1; omega)), cell_srow hHeld.2.2.2.2.2.2.2.2.1 (by have h1 := hM.out; have h2 := hgv.out; first | omega | (have h3 := lt_drew h1; omega)), cell_srow hHeld.2.2.2.2.2.2.2.2.2.1 (by have h1 := hM.out; have h2 := hgv.out; first | omega | (have h3 := lt_drew h1; omega)), cell_srow hHeld.2.2.2.2.2.2.2.2.2.2.1 (by have h1 := hM.out; have h2 := hgv.out; first | omega | (have h3 := lt_drew h1; omega)), cell_srow hHeld.2.2.2.2.2.2.2.2.2.2.2.1 (by have h1 := hM.out; have h2 := hgv.out; first | omega | (have h3 := lt_drew h1; omega)), cell_srow hHeld.2.2.2.2.2.2.2.2.2.2.2.2 (by have h1 := hM.out; have h2 := hgv.out; first | omega | (have h3 := lt_drew h1; omega))⟩
                    clear hK K
                    (try simp only [Act.put, List.setIfInBounds_toArray, List.set_cons_zero, List.set_cons_succ, List.getElem_toArray, List.getElem_cons_zero, List.getElem_cons_succ])
                    refine wpAnyH_done (by kernel_rfl) ?_ _
                    go_wp2_with fail
                    go_meet
                    exact ⟨_, g3, c3', rfl, Hid.mk (by first | exact hM.out | exact lt_drew hM.out), Hid.mk (srow_below HB.out (by have h1 := hM.out; first | omega | (have h3 := lt_drew h1; omega)) _), Hid.mk (srow_self AM.out _), Hid.mk (srow_li HO.out hne.out _), Hid.mk (srow_other A0.out (by have h1 := hM.out; first | omega | (have h3 := lt_drew h1; omega)) _), Hid.mk (srow_other A2.out (by have h1 := hM.out; first | omega | (have h3 := lt_drew h1; omega)) _), Hid.mk (srow_other A3.out (by have h1 := hM.out; first | omega | (have h3 := lt_drew h1; omega)) _)⟩
                  exact AllReadyH.nil
                exact AllReadyH.nil
              exact AllReadyH.nil
            exact AllReadyH.nil
          exact AllReadyH.nil
        case rest =>
          obtain ⟨M, g3, c3', rfl, hM, HB, AM, HO, A0, A2, A3⟩ := hcut
          obtain ⟨kR0, kR1, kS0, kS1⟩ := StV.co_bd R.out.co
          have q0 := blk_cell A0.out 4
          have m0 := blk_cell AM.out 0
          have m1 := blk_cell AM.out 1
          have m2 := blk_cell AM.out 2
          have m3 := blk_cell AM.out 3
          have m4 := blk_cell AM.out 4
          have m5 := blk_cell AM.out 5
          have m6 := blk_cell AM.out 6
          simp only [List.getElem?_toArray, List.getElem?_cons_zero, List.getElem?_cons_succ] at q0 m0 m1 m2 m3 m4 m5 m6
          have hb3ok : Hid (ValC.okBlk C.R C.S C.n3 C.B3 = true) := by
            have := R.out.co
            unfold ValC.okCo at this
            simp only [Bool.and_eq_true] at this
            exact this.2
          have ln2 : Hid (S.n2 = (nextL I u S u ++ (lst S.n2 S.L2).drop 13).length) := by
            have := R.out.l2
            unfold Hid
            rw [List.length_append, List.length_drop, lst_len]
            simp only [nextL, List.length_cons, List.length_nil]
            omega
          have hE : EnOk (enHome I u) := by
            have hq := veh_bd R.out.val R.out.hv
            have hi := (lens_bd (validB_parts R.out.val).1).2.1
            exact ⟨by simp [enHome], by simp [enHome]; omega, by simpa [enHome] using hi, by simp [enHome], by simp [enHome], by simpa [enHome] using hq.2.2.1, by simpa [enHome] using hq.2.2.2⟩
          have hMst : Hid (Mst wc (enHome I u) C.B3 C.n3 a3 C.R C.S (some ⟨g3, 0, none⟩) s3 S.n2 S.n3 (nextL I u S u ++ (lst S.n2 S.L2).drop 13) (lst S.n3 S.L3)) := by
            have hi := (lens_bd (validB_parts R.out.val).1).2.1
            have hm := StV.mul_bd kS0 kS1 hi
            have e2 := R.out.l2
            have e3 := R.out.l3
            exact ⟨HO.out, li_lst (HS.out.below HB.out).s3, ln2.out, (lst_len _ _).symm, by omega, by omega, bd_over (next_bd R.out.val R.out.hv R.out.d0 R.out.d1 hu0 (by unfold nodes; omega) R.out.p0 (by have := R.out.p1; omega)) (lst_bd R.out.a2), lst_bd R.out.a3, e2, by simpa [enHome] using e3, kS1, hE, (HC.out.below HB.out).b3, (blk_ok hb3ok.out).1⟩
          go_wp2_with fail
          refine (execS (enHome I u) C.B3 C.n3 a3 c3 C.R C.S S.n2 S.n3 (blk_ok hb3ok.out).2 C.n3 0 _ _ _ _ _ _ _ (by omega) hMst.out).mono ?_
          rename_i hKK
          rintro e w4 ⟨ar', al', cr', cs', rfl, -, -, -, -, hb4, -⟩
          refine hKK _ _ ?_
          clear hKK
          have HB4 := Hid.mk (below_then HB.out hb4)
          have AM4 := Hid.mk (blk_below AM.out hb4)
          have A24 := Hid.mk (blk_below A2.out hb4)
          have A34 := Hid.mk (blk_below A3.out hb4)
          clear hb4 q0 m0 m1 m2 m3 m4 m5 m6 AM HO A0 A2 A3 hMst
          generalize hru : (exec (enHome I u) C.B3 C.n3 C.n3 0 (nextL I u S u ++ (lst S.n2 S.L2).drop 13) (lst S.n3 S.L3)).2.2 = ru
          have HRU : Hid (ru = lastR C I u S) := Hid.mk (by rw [← hru]; rfl)
          clear hru
          refine wpList_store_row rfl _ _ _ rfl M #[.slice ar' S.n2 cr', .slice al' S.n3 cs', .int .i64 (enHome I u).tags, .int .i64 (enHome I u).skills, .int .i64 (enHome I u).q, .int .i64 ((enHome I u).nQ : Int), .int .i64 ru] rfl rfl _ _ AM4.out infoMm rfl (by simp [Value.oneCell']) ?_
          rw [show (#[.slice ar' S.n2 cr', .slice al' S.n3 cs', .int .i64 (enHome I u).tags, .int .i64 (enHome I u).skills, .int .i64 (enHome I u).q, .int .i64 ((enHome I u).nQ : Int), .int .i64 ru] : Array Value) = #[.slice ar' S.n2 cr', .slice al' S.n3 cs', .int .i64 0, .int .i64 (I.V u).b, .int .i64 (-1), .int .i64 (I.nQ : Int), .int .i64 ru] from rfl]
          obtain ⟨Y, hY⟩ : ∃ Y, Y = w4.setRow M #[.slice ar' S.n2 cr', .slice al' S.n3 cs', .int .i64 0, .int .i64 (I.V u).b, .int .i64 (-1), .int .i64 (I.nQ : Int), .int .i64 ru] := ⟨_, rfl⟩
          rw [← hY]
          have BY : Hid (Below w.heap.size w Y) := by unfold Hid; rw [hY]; exact srow_below HB4.out (by have := hM.out; omega) _
          have R6 : Hid (Y.heap[M]? = some (.cells #[.slice ar' S.n2 cr', .slice al' S.n3 cs', .int .i64 0, .int .i64 (I.V u).b, .int .i64 (-1), .int .i64 (I.nQ : Int), .int .i64 ru] 83)) := by unfold Hid; rw [hY]; exact srow_self AM4.out _
          have Y2 : Hid (Y.heap[w.heap.size + 1 + 1]? = some (.cells #[.int .i64 S.p, .int .i64 S.r, .int .i64 S.d, .int .i64 S.t, .int .i64 S.s, .int .i64 S.l, .slice s1 S.n1 t1, .slice s2 S.n2 t2, .slice s3 S.n3 t3] 34)) := by unfold Hid; rw [hY]; exact srow_other A24.out (by have := hM.out; omega) _
          have Y3 : Hid (Y.heap[w.heap.size + 1 + 1 + 1]? = some (.cells #[.int .i64 0, .int .i64 0, .int .i64 0] 59)) := by unfold Hid; rw [hY]; exact srow_other A34.out (by have := hM.out; omega) _
          clear hY HB4 AM4 A24 A34
          have y0 := blk_cell Y2.out 0
          have n6 := blk_cell R6.out 6
          have v0 := blk_cell Y3.out 0
          have v1 := blk_cell Y3.out 1
          have v2 := blk_cell Y3.out 2
          have u0 := blk_unfrozen Y3.out 0
          have u1 := blk_unfrozen Y3.out 1
          have u2 := blk_unfrozen Y3.out 2
          simp only [List.getElem?_toArray, List.getElem?_cons_zero, List.getElem?_cons_succ] at y0 n6 v0 v1 v2 u0 u1 u2
          have g1 := Hid.mk (show ¬ (okSt C I (u : Int) S = false ∨ S.p = -1) by rw [HOK.out]; have := HP.out; simp [this])
          by_cases hl : 0 ≤ ru
          · have HF : Hid (finB C I (u : Int) S = (2, S.p + 1, ru)) := by
              unfold Hid finB
              rw [if_neg g1.out, if_neg (by have := HR.out; omega), if_neg (by rw [hnone.out]; exact Bool.false_ne_true), Int.toNat_natCast, ← HRU.out, if_pos hl]
            have e4 : decide (0 ≤ ru) = true := by simp [hl]
            go_wp2
            refine bodyPost_ret (results_cell_row Tryz.results24 _ _ (w.heap.size + 1 + 1 + 1) _ _ _ _ (by simp [Act.put]) (vset Y3.out _ _ _) Tryz.underlying59 rfl infoVd) rfl ?_
            exact ⟨by rw [HF.out], vbel BY.out (by omega) _ _ _⟩
          · have HF : Hid (finB C I (u : Int) S = (1, 0, 0)) := by
              unfold Hid finB
              rw [if_neg g1.out, if_neg (by have := HR.out; omega), if_neg (by rw [hnone.out]; exact Bool.false_ne_true), Int.toNat_natCast, ← HRU.out, if_neg hl]
            have e4 : decide (0 ≤ ru) = false := by simp [hl]
            go_wp2
            refine bodyPost_ret (results_cell_row Tryz.results24 _ _ (w.heap.size + 1 + 1 + 1) _ _ _ _ (by simp [Act.put]) (vset Y3.out _ _ _) Tryz.underlying59 rfl infoVd) rfl ?_
            exact ⟨by rw [HF.out], vbel BY.out (by omega) _ _ _⟩
end Go.Proofs.YtgooegcmgejfpaaGreatDoor.Mac
