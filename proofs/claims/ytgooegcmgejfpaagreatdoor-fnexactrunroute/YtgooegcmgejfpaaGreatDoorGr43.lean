import Derived.Test.YtgooegcmgejfpaaGreatDoorGr41
import Derived.Test.YtgooegcmgejfpaaGreatDoorGr40
import Derived.Test.YtgooegcmgejfpaaGreatDoorGr42
import Derived.Test.YtgooegcmgejfpaaGreatDoorGr35
import Derived.Test.YtgooegcmgejfpaaGreatDoorGr38
import Derived.Test.YtgooegcmgejfpaaGreatDoorGr27
import Derived.Deep.DrawnRows
import Derived.Deep.CutRange
import Derived.Deep.Cut
import Derived.Deep.DeepCutAuto
namespace Go.Proofs.YtgooegcmgejfpaaGreatDoor.Mac
open Go Go.RowKit Go.Proofs.YtgooegcmgejfpaaGreatDoor.Mem Go.Proofs.YtgooegcmgejfpaaGreatDoor.Travel
open Go.Proofs.YtgooegcmgejfpaaGreatDoor.Valid (inB nodes nodes_bd validB inS)
open Go.Proofs.YtgooegcmgejfpaaGreatDoor.StV (tripB)
open Go.Proofs.YtgooegcmgejfpaaGreatDoor.Arith (cl cl_bd sadd smul addS)
set_option linter.unusedVariables false
set_option linter.unusedSimpArgs false
attribute [local go_sem ↓] Go.wp_at_zero Go.wp_at_succ

theorem size_drew (w : World) : w.drew.heap.size = w.heap.size := rfl
theorem li_old {w : World} {a : Option Addr} {l : List Int} (h : Li w a l) : l.length = 0 ∨ ∀ x, a = some x → x.block ≠ w.heap.size := by
  by_cases h0 : l.length = 0
  · exact Or.inl h0
  · exact Or.inr fun x hx => Nat.ne_of_lt (li_lt h (by omega) x hx)
theorem li_new {B M : Nat} {a : Option Addr} {l : List Int} (h : ∀ x, a = some x → B ≤ x.block) (hM : M < B) : l.length = 0 ∨ ∀ x, a = some x → x.block ≠ M := Or.inr fun x hx => by have := h x hx; omega
theorem home_ok {I : In} (hval : validB I = true) {u : Nat} (hu : u < I.nV) : EnOk (enHome I u) := by
  have hq := veh_bd hval hu
  have hi := (lens_bd (validB_parts hval).1).2.1
  exact ⟨by simp [enHome], by simp [enHome]; omega, by simpa [enHome] using hi, by simp [enHome], by simp [enHome], by simpa [enHome] using hq.2.2.1, by simpa [enHome] using hq.2.2.2⟩
theorem startL_bd {I : In} (hval : validB I = true) {u : Nat} (hu : u < I.nV) : Bd (startL I u) := by
  have hpl := plOf_ok' hval (n := (u : Int)) (by omega) (by unfold nodes; omega)
  have hve := veh_bd hval hu
  have a1 := hpl.o0; have a2 := hpl.oc; have a3 := hpl.c1; have a4 := hpl.h0; have a5 := hpl.h1; have a6 := hve.1; have a7 := hve.2.1
  intro i
  unfold startL
  rcases i with _ | _ | _ | _ | _ | _ | _ | _ | _ | _ | _ | _ | _ | i <;> simp only [List.getD_cons_zero, List.getD_cons_succ, List.getD_nil, Nat.zero_add] <;> omega
theorem zeros_bd (n : Nat) : Bd (zeros n) := fun i => by rw [zeros_get]; omega
set_option maxHeartbeats 16000000 in
set_option maxRecDepth 100000 in
theorem startS (a1 a2 a3 b1 b2 b3 : Option Addr) (c1 c2 c3 d1 d2 d3 : Nat) (C : Co) (I : In) (v : Int) (w : World) (hC : CoAt w a1 a2 a3 C) (hI : InAt w b1 b2 b3 I) (k1 : C.n1 ≤ 1048576) (k2 : C.n2 ≤ 1048576) (k3 : C.n3 ≤ 1048576) (h1 : I.nV ≤ 1048576) (h2 : I.nQ ≤ 1048576) (h3 : I.nR ≤ 1048576) :
    Calls Tryz.prog 9 #[.agg #[.int .i64 C.R, .int .i64 C.S, .slice a1 C.n1 c1, .slice a2 C.n2 c2, .slice a3 C.n3 c3], .agg #[.slice b1 I.nV d1, .slice b2 I.nQ d2, .slice b3 I.nR d3], .int .i64 v] w (StRet2 w (startB C I v)) := by
  have HC := Hid.mk hC
  have HI := Hid.mk hI
  clear hC hI
  go_enter Tryz.func9, Tryz.ntmps9
  go_wp2_with fail
  refine (ValCS.validS a1 a2 a3 c1 c2 c3 C _ (HC.out.below (by go_grown)) k1 k2 k3).mono ?_
  rintro e w1 ⟨rfl, hb⟩
  have HB := Hid.mk (below_then (w := w) (by go_grown) hb)
  have A0 := Hid.mk (blk_below (blk_alloc (blk_alloc (blk_new w _) _) _) hb)
  have A1 := Hid.mk (blk_below (blk_alloc (blk_new1 w _ _) _) hb)
  have A2 := Hid.mk (blk_below (blk_new2 w _ _ _) hb)
  clear hb
  cases hok : ValC.okCo C with
  | false =>
    have HF : Hid (startB C I v = bareS (-1) (-1)) := by unfold Hid startB; rw [if_neg (by rw [hok]; simp)]
    go_wp2_with fail
    refine (deadS _).mono ?_
    rename_i hKK
    rintro e wz ⟨rfl, hbz⟩
    refine hKK _ _ ?_
    clear hKK
    have AZ := Hid.mk (blk_below A2.out hbz)
    have BZ := Hid.mk (below_then HB.out hbz)
    clear hbz
    refine wpList_store_row rfl _ _ _ rfl (w.heap.size + 1 + 1) #[.int .i64 (-1), .int .i64 (-1), .int .i64 0, .int .i64 0, .int .i64 0, .int .i64 0, .slice none 0 0, .slice none 0 0, .slice none 0 0] rfl rfl _ _ AZ.out infoSt rfl (by simp [Value.oneCell']) ?_
    go_wp2
    refine bodyPost_ret (results_cell_row Tryz.results9 _ _ (w.heap.size + 1 + 1) _ _ _ _ (by simp [Act.put]) (row_self AZ.out _) Tryz.underlying34 rfl infoSt) rfl ?_
    exact ⟨none, none, none, 0, 0, 0, by rw [HF.out]; rfl, by rw [HF.out]; exact bare_at _ _ _, row_below BZ.out (by omega) _, by rw [HF.out]; exact bare_fre _ _ _, by rw [HF.out]; exact Nat.le_refl _⟩
  | true =>
    have x0 := blk_cell A1.out 0
    have x1 := blk_cell A1.out 1
    have x2 := blk_cell A1.out 2
    simp only [List.getElem?_toArray, List.getElem?_cons_zero, List.getElem?_cons_succ] at x0 x1 x2
    go_wp2_with fail
    refine (Valid.validS b1 b2 b3 d1 d2 d3 I _ (HI.out.below HB.out) h1 h2 h3).mono ?_
    rintro e w2 ⟨rfl, hb⟩
    have HB := Hid.mk (below_then HB.out hb)
    have A0 := Hid.mk (blk_below A0.out hb)
    have A1 := Hid.mk (blk_below A1.out hb)
    have A2 := Hid.mk (blk_below A2.out hb)
    clear hb x0 x1 x2
    cases hval : validB I with
    | false =>
      have HF : Hid (startB C I v = bareS (-1) (-1)) := by unfold Hid startB; rw [if_neg (by unfold tripB; rw [hval]; simp)]
      go_wp2_with fail
      refine (deadS _).mono ?_
      rename_i hKK
      rintro e wz ⟨rfl, hbz⟩
      refine hKK _ _ ?_
      clear hKK
      have AZ := Hid.mk (blk_below A2.out hbz)
      have BZ := Hid.mk (below_then HB.out hbz)
      clear hbz
      refine wpList_store_row rfl _ _ _ rfl (w.heap.size + 1 + 1) #[.int .i64 (-1), .int .i64 (-1), .int .i64 0, .int .i64 0, .int .i64 0, .int .i64 0, .slice none 0 0, .slice none 0 0, .slice none 0 0] rfl rfl _ _ AZ.out infoSt rfl (by simp [Value.oneCell']) ?_
      go_wp2
      refine bodyPost_ret (results_cell_row Tryz.results9 _ _ (w.heap.size + 1 + 1) _ _ _ _ (by simp [Act.put]) (row_self AZ.out _) Tryz.underlying34 rfl infoSt) rfl ?_
      exact ⟨none, none, none, 0, 0, 0, by rw [HF.out]; rfl, by rw [HF.out]; exact bare_at _ _ _, row_below BZ.out (by omega) _, by rw [HF.out]; exact bare_fre _ _ _, by rw [HF.out]; exact Nat.le_refl _⟩
    | true =>
      obtain ⟨kR0, kR1, kS0, kS1⟩ := StV.co_bd hok
      obtain ⟨q1, q2, q3⟩ := lens_bd (validB_parts hval).1
      have x0 := blk_cell A1.out 0
      simp only [List.getElem?_toArray, List.getElem?_cons_zero, List.getElem?_cons_succ] at x0
      go_wp2_with fail
      clear x0
      refine (inS _ _ _ _).mono ?_
      rintro e w' ⟨rfl, rfl⟩
      cases g2 : inB v 0 ((I.nV : Int) - 1) with
      | false =>
        have HF : Hid (startB C I v = bareS (-1) (-1)) := by unfold Hid startB; rw [if_neg (by unfold tripB; rw [g2]; simp)]
        go_wp2_with fail
        refine (deadS _).mono ?_
        rename_i hKK
        rintro e wz ⟨rfl, hbz⟩
        refine hKK _ _ ?_
        clear hKK
        have AZ := Hid.mk (blk_below A2.out hbz)
        have BZ := Hid.mk (below_then HB.out hbz)
        clear hbz
        refine wpList_store_row rfl _ _ _ rfl (w.heap.size + 1 + 1) #[.int .i64 (-1), .int .i64 (-1), .int .i64 0, .int .i64 0, .int .i64 0, .int .i64 0, .slice none 0 0, .slice none 0 0, .slice none 0 0] rfl rfl _ _ AZ.out infoSt rfl (by simp [Value.oneCell']) ?_
        go_wp2
        refine bodyPost_ret (results_cell_row Tryz.results9 _ _ (w.heap.size + 1 + 1) _ _ _ _ (by simp [Act.put]) (row_self AZ.out _) Tryz.underlying34 rfl infoSt) rfl ?_
        exact ⟨none, none, none, 0, 0, 0, by rw [HF.out]; rfl, by rw [HF.out]; exact bare_at _ _ _, row_below BZ.out (by omega) _, by rw [HF.out]; exact bare_fre _ _ _, by rw [HF.out]; exact Nat.le_refl _⟩
      | true =>
        have htr : tripB I v = true := by unfold tripB; rw [hval, g2]; rfl
        obtain ⟨hv0, hv1, -⟩ := trip_bd htr
        obtain ⟨u, rfl⟩ : ∃ u : Nat, v = (u : Int) := ⟨v.toNat, by omega⟩
        have hu : u < I.nV := by omega
        have hmw := StV.mul_wrap kS0 kS1 q2
        have hmb := StV.mul_bd kS0 kS1 q2
        obtain ⟨Rn, hRn⟩ : ∃ Rn : Nat, C.R = (Rn : Int) := ⟨C.R.toNat, by omega⟩
        obtain ⟨Sn, hSn⟩ : ∃ Sn : Nat, C.S * (I.nQ : Int) = (Sn : Int) := ⟨(C.S * I.nQ).toNat, by omega⟩
        have lR : Rn ≤ 1000 := by omega
        have lR0 : 13 ≤ Rn := by omega
        have lS : Sn ≤ 100000 := by omega
        replace hmw := hmw.trans hSn
        have hpl := plOf_ok' hval (n := (u : Int)) (by omega) (by unfold nodes; omega)
        have ob : Hid (0 ≤ (plOf I (u : Int)).o ∧ (plOf I (u : Int)).o ≤ 1000000000) := by have e1 := hpl.o0; have e2 := hpl.oc; have e3 := hpl.c1; exact Hid.mk ⟨by omega, by omega⟩
        have HV := Hid.mk hval
        have HOK := Hid.mk hok
        have HTR := Hid.mk htr
        have hb1 : Hid (ValC.okBlk C.R C.S C.n1 C.B1 = true) := by
          have := HOK.out
          unfold ValC.okCo at this
          simp only [Bool.and_eq_true] at this
          exact this.1.1.2
        have HRn := Hid.mk hRn
        have HSn := Hid.mk hSn
        have x1 := blk_cell A1.out 1
        simp only [List.getElem?_toArray, List.getElem?_cons_zero, List.getElem?_cons_succ] at x1
        clear hval hok htr g2 hpl hmb hSn
        go_upto_region 4 with fail
        clear x1
        rcases HI.out.v with h0 | ⟨gv, ov, rfl, hvv⟩
        · omega
        obtain ⟨-, kb0, -, -, ko0, -, -⟩ := Veh.at (hvv u hu)
        have hgv : Hid (gv < w.heap.size) := lt_of_cell kb0
        have kb := cell_keep HB.out kb0
        have KO := Hid.mk ko0
        clear kb0 ko0 hvv
        have hu0 : (0 : Int) ≤ (u : Int) := by omega
        have hu1 : (u : Int) < (I.nV : Int) := by omega
        have y0 := blk_cell A0.out 0
        have y1 := blk_cell A0.out 1
        have x0 := blk_cell A1.out 0
        have x1 := blk_cell A1.out 1
        have x2 := blk_cell A1.out 2
        simp only [List.getElem?_toArray, List.getElem?_cons_zero, List.getElem?_cons_succ] at y0 y1 x0 x1 x2
        rw [hRn] at y0
        clear hRn
        have HSS := Hid.mk (And.intro y0 (And.intro y1 (And.intro x0 (And.intro x1 (And.intro x2 kb)))))
        clear y0 y1 x0 x1 x2 kb
        go_cut [8] (fun m wx => ∃ (M g3 c3' c4 : Nat) (a4 : Option Addr), m = .pointer (some ⟨M, 0, none⟩) ∧ Hid (w.heap.size + 1 + 1 < M ∧ w.heap.size + 1 + 1 < g3 ∧ Rn ≤ c3') ∧ Hid (Below w.heap.size w wx) ∧ Hid (wx.heap[M]? = some (.cells #[.slice (some ⟨g3, 0, none⟩) Rn c3', .slice a4 Sn c4, .int .i64 0, .int .i64 (I.V u).b, .int .i64 (-1), .int .i64 (I.nQ : Int), .int .i64 (-1)] 83)) ∧ Hid (Li wx (some ⟨g3, 0, none⟩) (startL I u ++ (zeros Rn).drop 13)) ∧ Hid (Li wx a4 (zeros Sn)) ∧ Hid ((∀ x, a4 = some x → w.heap.size + 1 + 1 < x.block) ∧ ((zeros Sn).length = 0 ∨ ∀ x, a4 = some x → x.block ≠ M)) ∧ Hid (wx.heap[w.heap.size]? = some (.cells #[.int .i64 C.R, .int .i64 C.S, .slice a1 C.n1 c1, .slice a2 C.n2 c2, .slice a3 C.n3 c3] 38)) ∧ Hid (wx.heap[w.heap.size + 1]? = some (.cells #[.slice (some ⟨gv, ov, none⟩) I.nV d1, .slice b2 I.nQ d2, .slice b3 I.nR d3] 44)) ∧ Hid (wx.heap[w.heap.size + 1 + 1]? = some (.cells #[.int .i64 0, .int .i64 0, .int .i64 0, .int .i64 0, .int .i64 0, .int .i64 0, .slice none 0 0, .slice none 0 0, .slice none 0 0] 34)))
        case first =>
          have HB := Hid.mk HB.out.drew
          have A0 := Hid.mk (blk_drew A0.out)
          have A1 := Hid.mk (blk_drew A1.out)
          have A2 := Hid.mk (blk_drew A2.out)
          refine wp_region_held_drew (S := (fun w' => w'.cell? ⟨w.heap.size, 0, none⟩ = some (.int .i64 (Rn : Int)) ∧ w'.cell? ⟨w.heap.size, 1, none⟩ = some (.int .i64 C.S) ∧ w'.cell? ⟨w.heap.size + 1, 0, none⟩ = some (.slice (some ⟨gv, ov, none⟩) I.nV d1) ∧ w'.cell? ⟨w.heap.size + 1, 1, none⟩ = some (.slice b2 I.nQ d2) ∧ w'.cell? ⟨w.heap.size + 1, 2, none⟩ = some (.slice b3 I.nR d3) ∧ w'.cell? ⟨gv, ov + u * 7 + 1, none⟩ = some (.int .i64 (I.V u).b))) (by kernel_rfl) ?_ (fun hHeld => ?_)
          · exact HSS.out
          refine wpAnyH_take (i := 0) (v := ?_) rfl (by kernel_rfl) (by kernel_rfl) (by kernel_rfl) (fun _ _ _ h => h) (Or.inl ⟨by rfl, ?_⟩) (by assumption) ?_
          rotate_left
          · intro w hSw; (try dsimp only at hSw); go_simp; (try with_reducible rfl)
          rotate_left
          simp only [Act.put, List.setIfInBounds_toArray, List.set_cons_zero, List.set_cons_succ, List.getElem_toArray, List.getElem_cons_zero, List.getElem_cons_succ]
          refine wpAnyH_take (i := 1) (v := ?_) rfl (by kernel_rfl) (by kernel_rfl) (by kernel_rfl) (fun _ _ _ h => h) (Or.inl ⟨by rfl, ?_⟩) (by assumption) ?_
          rotate_left
          · intro w hSw; (try dsimp only at hSw); go_simp; (try with_reducible rfl)
          rotate_left
          simp only [Act.put, List.setIfInBounds_toArray, List.set_cons_zero, List.set_cons_succ, List.getElem_toArray, List.getElem_cons_zero, List.getElem_cons_succ]
          refine wpAnyH_take (i := 3) (v := ?_) rfl (by kernel_rfl) (by kernel_rfl) (by kernel_rfl) (fun _ _ _ h => h) (Or.inl ⟨by rfl, ?_⟩) (by assumption) ?_
          rotate_left
          · intro w hSw; (try dsimp only at hSw); go_simp; (try with_reducible rfl)
          rotate_left
          simp only [Act.put, List.setIfInBounds_toArray, List.set_cons_zero, List.set_cons_succ, List.getElem_toArray, List.getElem_cons_zero, List.getElem_cons_succ]
          refine wpAnyH_take (i := 4) (v := ?_) rfl (by kernel_rfl) (by kernel_rfl) (by kernel_rfl) (fun _ _ _ h => h) (Or.inl ⟨by rfl, ?_⟩) (by assumption) ?_
          rotate_left
          · intro w hSw; (try dsimp only at hSw); go_simp; (try with_reducible rfl)
          rotate_left
          simp only [Act.put, List.setIfInBounds_toArray, List.set_cons_zero, List.set_cons_succ, List.getElem_toArray, List.getElem_cons_zero, List.getElem_cons_succ]
          refine wpAnyH_take (i := 8) (v := ?_) rfl (by kernel_rfl) (by kernel_rfl) (by kernel_rfl) (fun _ _ _ h => h) (Or.inl ⟨by rfl, ?_⟩) (by assumption) ?_
          rotate_left
          · intro w hSw; (try dsimp only at hSw); go_simp; (try with_reducible rfl)
          rotate_left
          simp only [Act.put, List.setIfInBounds_toArray, List.set_cons_zero, List.set_cons_succ, List.getElem_toArray, List.getElem_cons_zero, List.getElem_cons_succ]
          refine wpAnyH_take (i := 9) (v := ?_) rfl (by kernel_rfl) (by kernel_rfl) (by kernel_rfl) (fun _ _ _ h => h) (Or.inl ⟨by rfl, ?_⟩) (by assumption) ?_
          rotate_left
          · intro w hSw; (try dsimp only at hSw); go_simp; (try with_reducible rfl)
          rotate_left
          simp only [Act.put, List.setIfInBounds_toArray, List.set_cons_zero, List.set_cons_succ, List.getElem_toArray, List.getElem_cons_zero, List.getElem_cons_succ]
          refine wpAnyH_take (i := 10) (v := ?_) rfl (by kernel_rfl) (by kernel_rfl) (by kernel_rfl) (fun _ _ _ h => h) (Or.inl ⟨by rfl, ?_⟩) (by assumption) ?_
          rotate_left
          · intro w hSw; (try dsimp only at hSw); go_simp; (try with_reducible rfl)
          rotate_left
          simp only [Act.put, List.setIfInBounds_toArray, List.set_cons_zero, List.set_cons_succ, List.getElem_toArray, List.getElem_cons_zero, List.getElem_cons_succ]
          refine wpAnyH_take (i := 11) (v := ?_) rfl (by kernel_rfl) (by kernel_rfl) (by kernel_rfl) (fun _ _ _ h => h) (Or.inl ⟨by rfl, ?_⟩) (by assumption) ?_
          rotate_left
          · intro w hSw; (try dsimp only at hSw); go_simp; (try with_reducible rfl)
          rotate_left
          simp only [Act.put, List.setIfInBounds_toArray, List.set_cons_zero, List.set_cons_succ, List.getElem_toArray, List.getElem_cons_zero, List.getElem_cons_succ]
          refine wpAnyH_take (i := 13) (v := ?_) rfl (by kernel_rfl) (by kernel_rfl) (by kernel_rfl) (fun _ _ _ h => h) (Or.inl ⟨by rfl, ?_⟩) (by assumption) ?_
          rotate_left
          · intro w hSw; (try dsimp only at hSw); go_simp; (try with_reducible rfl)
          rotate_left
          simp only [Act.put, List.setIfInBounds_toArray, List.set_cons_zero, List.set_cons_succ, List.getElem_toArray, List.getElem_cons_zero, List.getElem_cons_succ]
          refine wpAnyH_take (i := 14) (v := ?_) rfl (by kernel_rfl) (by kernel_rfl) (by kernel_rfl) (fun _ _ _ h => h) (Or.inl ⟨by rfl, ?_⟩) (by assumption) ?_
          rotate_left
          · intro w hSw; (try dsimp only at hSw); go_simp; (try with_reducible rfl)
          rotate_left
          simp only [Act.put, List.setIfInBounds_toArray, List.set_cons_zero, List.set_cons_succ, List.getElem_toArray, List.getElem_cons_zero, List.getElem_cons_succ]
          refine wpAnyH_take (i := 15) (v := ?_) rfl (by kernel_rfl) (by kernel_rfl) (by kernel_rfl) (fun _ _ _ h => h) (Or.inl ⟨by rfl, ?_⟩) (by assumption) ?_
          rotate_left
          · intro w hSw; (try dsimp only at hSw); go_simp; (try with_reducible rfl)
          rotate_left
          simp only [Act.put, List.setIfInBounds_toArray, List.set_cons_zero, List.set_cons_succ, List.getElem_toArray, List.getElem_cons_zero, List.getElem_cons_succ]
          refine wpAnyH_take (i := 16) (v := ?_) rfl (by kernel_rfl) (by kernel_rfl) (by kernel_rfl) (fun _ _ _ h => h) (Or.inl ⟨by rfl, ?_⟩) (by assumption) ?_
          rotate_left
          · intro w hSw; (try dsimp only at hSw); go_simp; (try with_reducible rfl)
          rotate_left
          simp only [Act.put, List.setIfInBounds_toArray, List.set_cons_zero, List.set_cons_succ, List.getElem_toArray, List.getElem_cons_zero, List.getElem_cons_succ]
          refine wpAnyH_take (i := 17) (v := ?_) rfl (by kernel_rfl) (by kernel_rfl) (by kernel_rfl) (fun _ _ _ h => h) (Or.inl ⟨by rfl, ?_⟩) (by assumption) ?_
          rotate_left
          · intro w hSw; (try dsimp only at hSw); go_simp; (try with_reducible rfl)
          rotate_left
          simp only [Act.put, List.setIfInBounds_toArray, List.set_cons_zero, List.set_cons_succ, List.getElem_toArray, List.getElem_cons_zero, List.getElem_cons_succ]
          refine wpAnyH_take (i := 18) (v := ?_) rfl (by kernel_rfl) (by kernel_rfl) (by kernel_rfl) (fun _ _ _ h => h) (Or.inl ⟨by rfl, ?_⟩) (by assumption) ?_
          rotate_left
          · intro w hSw; (try dsimp only at hSw); go_simp; (try with_reducible rfl)
          rotate_left
          simp only [Act.put, List.setIfInBounds_toArray, List.set_cons_zero, List.set_cons_succ, List.getElem_toArray, List.getElem_cons_zero, List.getElem_cons_succ]
          refine wpAnyH_take (i := 19) (v := ?_) rfl (by kernel_rfl) (by kernel_rfl) (by kernel_rfl) (fun _ _ _ h => h) (Or.inl ⟨by rfl, ?_⟩) (by assumption) ?_
          rotate_left
          · intro w hSw; (try dsimp only at hSw); go_simp; (try with_reducible rfl)
          rotate_left
          simp only [Act.put, List.setIfInBounds_toArray, List.set_cons_zero, List.set_cons_succ, List.getElem_toArray, List.getElem_cons_zero, List.getElem_cons_succ]
          refine wpAnyH_ready (rs := [2, 5, 21]) (by kernel_rfl) (by simp) ?_
          refine AllReadyH.cons rfl (fun K hK => ?_) ?_
          · go_simp
            refine (zerosS Rn _ (by omega)).mono ?_
            rintro e wa ⟨az, cz, rfl, hl, hb, hfr, hcz⟩
            have HB := Hid.mk (below_then HB.out hb)
            have A0 := Hid.mk (blk_below A0.out hb)
            have A1 := Hid.mk (blk_below A1.out hb)
            have A2 := Hid.mk (blk_below A2.out hb)
            (try have HZ := Hid.mk (HZ.out.below hb))
            (try have HAt := Hid.mk (HAt.out.below hb))
            (try have HO := Hid.mk (HO.out.below hb))
            (try have H4 := Hid.mk (H4.out.below hb))
            (try have AM := Hid.mk (blk_below AM.out hb))
            have HZ := Hid.mk hl
            have HCZ := Hid.mk hcz
            clear hl hcz hfr
            refine hK.out _ _ ?_ (fun hHeld => ?_)
            · exact ⟨cell_keep hb hHeld.1, cell_keep hb hHeld.2.1, cell_keep hb hHeld.2.2.1, cell_keep hb hHeld.2.2.2.1, cell_keep hb hHeld.2.2.2.2.1, cell_keep hb hHeld.2.2.2.2.2⟩
            clear hK K
            (try simp only [Act.put, List.setIfInBounds_toArray, List.set_cons_zero, List.set_cons_succ, List.getElem_toArray, List.getElem_cons_zero, List.getElem_cons_succ])
            refine wpAnyH_ready (rs := [5, 21]) (by kernel_rfl) (by simp) ?_
            refine AllReadyH.cons rfl (fun K hK => ?_) ?_
            · go_simp
              have HB := Hid.mk (HB.out.alloc HB.out.size (.cells #[] 2))
              have A0 := Hid.mk (blk_alloc A0.out (.cells #[] 2))
              have A1 := Hid.mk (blk_alloc A1.out (.cells #[] 2))
              have A2 := Hid.mk (blk_alloc A2.out (.cells #[] 2))
              (try have HZ := Hid.mk (HZ.out.below ((Below.refl _ _).alloc (Nat.le_refl _) (.cells #[] 2))))
              (try have HAt := Hid.mk (HAt.out.below ((Below.refl _ _).alloc (Nat.le_refl _) (.cells #[] 2))))
              (try have HO := Hid.mk (HO.out.below ((Below.refl _ _).alloc (Nat.le_refl _) (.cells #[] 2))))
              (try have H4 := Hid.mk (H4.out.below ((Below.refl _ _).alloc (Nat.le_refl _) (.cells #[] 2))))
              (try have AM := Hid.mk (blk_alloc AM.out (.cells #[] 2)))
              refine hK.out _ _ ?_ (fun hHeld => ?_)
              · exact ⟨cell_alloc' hHeld.1 _, cell_alloc' hHeld.2.1 _, cell_alloc' hHeld.2.2.1 _, cell_alloc' hHeld.2.2.2.1 _, cell_alloc' hHeld.2.2.2.2.1 _, cell_alloc' hHeld.2.2.2.2.2 _⟩
              clear hK K
              (try simp only [Act.put, List.setIfInBounds_toArray, List.set_cons_zero, List.set_cons_succ, List.getElem_toArray, List.getElem_cons_zero, List.getElem_cons_succ])
              refine wpAnyH_ready (rs := [6, 21]) (by kernel_rfl) (by simp) ?_
              refine AllReadyH.cons rfl (fun K hK => ?_) ?_
              · go_simp
                refine (attrsS (some ⟨gv, ov, none⟩) b2 b3 d1 d2 d3 I u _ _ (HI.out.below HB.out) hu q1 q2 ob.out).mono ?_
                rintro e wb ⟨ga, rfl, hl, hb, hga⟩
                have HB := Hid.mk (below_then HB.out hb)
                have A0 := Hid.mk (blk_below A0.out hb)
                have A1 := Hid.mk (blk_below A1.out hb)
                have A2 := Hid.mk (blk_below A2.out hb)
                (try have HZ := Hid.mk (HZ.out.below hb))
                (try have HAt := Hid.mk (HAt.out.below hb))
                (try have HO := Hid.mk (HO.out.below hb))
                (try have H4 := Hid.mk (H4.out.below hb))
                (try have AM := Hid.mk (blk_below AM.out hb))
                have HAt := Hid.mk hl
                clear hl hga
                refine hK.out _ _ ?_ (fun hHeld => ?_)
                · exact ⟨cell_keep hb hHeld.1, cell_keep hb hHeld.2.1, cell_keep hb hHeld.2.2.1, cell_keep hb hHeld.2.2.2.1, cell_keep hb hHeld.2.2.2.2.1, cell_keep hb hHeld.2.2.2.2.2⟩
                clear hK K
                (try simp only [Act.put, List.setIfInBounds_toArray, List.set_cons_zero, List.set_cons_succ, List.getElem_toArray, List.getElem_cons_zero, List.getElem_cons_succ])
                refine wpAnyH_ready (rs := [7, 21]) (by kernel_rfl) (by simp) ?_
                refine AllReadyH.cons rfl (fun K hK => ?_) ?_
                · go_simp
                  refine (overS az (some ⟨ga, 0, none⟩) Rn cz 13 (zeros Rn) (startL I u) _ (zeros_len _).symm rfl HZ.out HAt.out lR0 HCZ.out (by omega)).mono ?_
                  rintro e wd ⟨g3, c3', rfl, hl, hb, hg3, hc3⟩
                  have HC3 := Hid.mk hc3
                  have HG3 := Hid.mk (Nat.lt_of_lt_of_le (blk_lt A2.out) hg3)
                  have HB := Hid.mk (below_then HB.out hb)
                  have A0 := Hid.mk (blk_below A0.out hb)
                  have A1 := Hid.mk (blk_below A1.out hb)
                  have A2 := Hid.mk (blk_below A2.out hb)
                  (try have HZ := Hid.mk (HZ.out.below hb))
                  (try have HAt := Hid.mk (HAt.out.below hb))
                  (try have HO := Hid.mk (HO.out.below hb))
                  (try have H4 := Hid.mk (H4.out.below hb))
                  (try have AM := Hid.mk (blk_below AM.out hb))
                  have HO := Hid.mk hl
                  clear hl hg3
                  refine hK.out _ _ ?_ (fun hHeld => ?_)
                  · exact ⟨cell_keep hb hHeld.1, cell_keep hb hHeld.2.1, cell_keep hb hHeld.2.2.1, cell_keep hb hHeld.2.2.2.1, cell_keep hb hHeld.2.2.2.2.1, cell_keep hb hHeld.2.2.2.2.2⟩
                  clear hK K
                  (try simp only [Act.put, List.setIfInBounds_toArray, List.set_cons_zero, List.set_cons_succ, List.getElem_toArray, List.getElem_cons_zero, List.getElem_cons_succ])
                  refine wpAnyH_ready (rs := [12, 21]) (by kernel_rfl) (by simp) ?_
                  refine AllReadyH.cons rfl (fun K hK => ?_) ?_
                  · go_simp
                    refine (zerosS Sn _ (by omega)).mono ?_
                    rintro e we ⟨a4, c4, rfl, hl, hb, hfr, -⟩
                    (try have N4 := Hid.mk (li_new (l := zeros Sn) hfr (blk_lt AM.out)))
                    have F4 : Hid (∀ x, a4 = some x → w.heap.size + 1 + 1 < x.block) := Hid.mk fun x hx => Nat.lt_of_lt_of_le (blk_lt A2.out) (hfr x hx)
                    have HB := Hid.mk (below_then HB.out hb)
                    have A0 := Hid.mk (blk_below A0.out hb)
                    have A1 := Hid.mk (blk_below A1.out hb)
                    have A2 := Hid.mk (blk_below A2.out hb)
                    (try have HZ := Hid.mk (HZ.out.below hb))
                    (try have HAt := Hid.mk (HAt.out.below hb))
                    (try have HO := Hid.mk (HO.out.below hb))
                    (try have H4 := Hid.mk (H4.out.below hb))
                    (try have AM := Hid.mk (blk_below AM.out hb))
                    have H4 := Hid.mk hl
                    clear hl hfr
                    refine hK.out _ _ ?_ (fun hHeld => ?_)
                    · exact ⟨cell_keep hb hHeld.1, cell_keep hb hHeld.2.1, cell_keep hb hHeld.2.2.1, cell_keep hb hHeld.2.2.2.1, cell_keep hb hHeld.2.2.2.2.1, cell_keep hb hHeld.2.2.2.2.2⟩
                    clear hK K
                    (try simp only [Act.put, List.setIfInBounds_toArray, List.set_cons_zero, List.set_cons_succ, List.getElem_toArray, List.getElem_cons_zero, List.getElem_cons_succ])
                    refine wpAnyH_take (i := 20) (v := ?_) rfl (by kernel_rfl) (by kernel_rfl) (by kernel_rfl) (fun _ _ _ h => h) (Or.inl ⟨by rfl, ?_⟩) (by assumption) ?_
                    rotate_left
                    · intro w hSw; (try dsimp only at hSw); go_simp; (try with_reducible rfl)
                    rotate_left
                    simp only [Act.put, List.setIfInBounds_toArray, List.set_cons_zero, List.set_cons_succ, List.getElem_toArray, List.getElem_cons_zero, List.getElem_cons_succ]
                    refine wpAnyH_ready (rs := [21]) (by kernel_rfl) (by simp) ?_
                    refine AllReadyH.cons rfl (fun K hK => ?_) ?_
                    · go_simp
                      have hM := Hid.mk (blk_lt A2.out)
                      (try have N4 := Hid.mk (li_old H4.out))
                      have AM' := Hid.mk (blk_of HB.out (.cells #[.slice none 0 0, .slice none 0 0, .int .i64 0, .int .i64 0, .int .i64 0, .int .i64 0, .int .i64 0] 83))
                      have HB := Hid.mk (HB.out.alloc HB.out.size (.cells #[.slice none 0 0, .slice none 0 0, .int .i64 0, .int .i64 0, .int .i64 0, .int .i64 0, .int .i64 0] 83))
                      have A0 := Hid.mk (blk_alloc A0.out (.cells #[.slice none 0 0, .slice none 0 0, .int .i64 0, .int .i64 0, .int .i64 0, .int .i64 0, .int .i64 0] 83))
                      have A1 := Hid.mk (blk_alloc A1.out (.cells #[.slice none 0 0, .slice none 0 0, .int .i64 0, .int .i64 0, .int .i64 0, .int .i64 0, .int .i64 0] 83))
                      have A2 := Hid.mk (blk_alloc A2.out (.cells #[.slice none 0 0, .slice none 0 0, .int .i64 0, .int .i64 0, .int .i64 0, .int .i64 0, .int .i64 0] 83))
                      (try have HZ := Hid.mk (HZ.out.below ((Below.refl _ _).alloc (Nat.le_refl _) (.cells #[.slice none 0 0, .slice none 0 0, .int .i64 0, .int .i64 0, .int .i64 0, .int .i64 0, .int .i64 0] 83))))
                      (try have HAt := Hid.mk (HAt.out.below ((Below.refl _ _).alloc (Nat.le_refl _) (.cells #[.slice none 0 0, .slice none 0 0, .int .i64 0, .int .i64 0, .int .i64 0, .int .i64 0, .int .i64 0] 83))))
                      (try have HO := Hid.mk (HO.out.below ((Below.refl _ _).alloc (Nat.le_refl _) (.cells #[.slice none 0 0, .slice none 0 0, .int .i64 0, .int .i64 0, .int .i64 0, .int .i64 0, .int .i64 0] 83))))
                      (try have H4 := Hid.mk (H4.out.below ((Below.refl _ _).alloc (Nat.le_refl _) (.cells #[.slice none 0 0, .slice none 0 0, .int .i64 0, .int .i64 0, .int .i64 0, .int .i64 0, .int .i64 0] 83))))
                      have AM := AM'
                      (try simp only [World.size_alloc, size_drew] at AM hM)
                      refine hK.out _ _ ?_ (fun hHeld => ?_)
                      · exact ⟨cell_alloc' hHeld.1 _, cell_alloc' hHeld.2.1 _, cell_alloc' hHeld.2.2.1 _, cell_alloc' hHeld.2.2.2.1 _, cell_alloc' hHeld.2.2.2.2.1 _, cell_alloc' hHeld.2.2.2.2.2 _⟩
                      clear hK K
                      (try simp only [Act.put, List.setIfInBounds_toArray, List.set_cons_zero, List.set_cons_succ, List.getElem_toArray, List.getElem_cons_zero, List.getElem_cons_succ])
                      refine wpAnyH_ready (rs := [22]) (by kernel_rfl) (by simp) ?_
                      refine AllReadyH.cons rfl (fun K hK => ?_) ?_
                      · rw [if_pos (by rfl)]
                        have hne := Hid.mk (li_ne (x := .slice none 0 0) HO.out (by simp [startL]) AM.out (fun z => by simp))
                        refine wp_store_row _ _ _ rfl _ #[.slice (some ⟨g3, 0, none⟩) Rn c3', .slice a4 Sn c4, .int .i64 0, .int .i64 (I.V u).b, .int .i64 (-1), .int .i64 (I.nQ : Int), .int .i64 (-1)] rfl rfl _ _ AM.out infoMm rfl (by simp [Value.oneCell']) ?_
                        refine hK.out _ _ ?_ (fun hHeld => ?_)
                        · exact ⟨cell_srow hHeld.1 (by have z1 := hM.out; have z2 := hgv.out; first | omega | (have z3 := lt_drew z1; omega)), cell_srow hHeld.2.1 (by have z1 := hM.out; have z2 := hgv.out; first | omega | (have z3 := lt_drew z1; omega)), cell_srow hHeld.2.2.1 (by have z1 := hM.out; have z2 := hgv.out; first | omega | (have z3 := lt_drew z1; omega)), cell_srow hHeld.2.2.2.1 (by have z1 := hM.out; have z2 := hgv.out; first | omega | (have z3 := lt_drew z1; omega)), cell_srow hHeld.2.2.2.2.1 (by have z1 := hM.out; have z2 := hgv.out; first | omega | (have z3 := lt_drew z1; omega)), cell_srow hHeld.2.2.2.2.2 (by have z1 := hM.out; have z2 := hgv.out; first | omega | (have z3 := lt_drew z1; omega))⟩
                        clear hK K
                        (try simp only [Act.put, List.setIfInBounds_toArray, List.set_cons_zero, List.set_cons_succ, List.getElem_toArray, List.getElem_cons_zero, List.getElem_cons_succ])
                        refine wpAnyH_done (by kernel_rfl) ?_ _
                        go_wp2_with fail
                        go_meet
                        exact ⟨_, g3, c3', c4, a4, rfl, Hid.mk (by first | exact ⟨hM.out, HG3.out, HC3.out⟩ | exact ⟨lt_drew hM.out, HG3.out, HC3.out⟩), Hid.mk (srow_below HB.out (by have z1 := hM.out; have z2 := hgv.out; first | omega | (have z3 := lt_drew z1; omega)) _), Hid.mk (srow_self AM.out _), Hid.mk (srow_li HO.out hne.out _), Hid.mk (li_far H4.out N4.out _), Hid.mk ⟨F4.out, N4.out⟩, Hid.mk (srow_other A0.out (by have z1 := hM.out; have z2 := hgv.out; first | omega | (have z3 := lt_drew z1; omega)) _), Hid.mk (srow_other A1.out (by have z1 := hM.out; have z2 := hgv.out; first | omega | (have z3 := lt_drew z1; omega)) _), Hid.mk (srow_other A2.out (by have z1 := hM.out; have z2 := hgv.out; first | omega | (have z3 := lt_drew z1; omega)) _)⟩
                      exact AllReadyH.nil
                    exact AllReadyH.nil
                  refine AllReadyH.cons rfl (fun K hK => ?_) ?_
                  · go_simp
                    have hM := Hid.mk (blk_lt A2.out)
                    (try have N4 := Hid.mk (li_old H4.out))
                    have AM' := Hid.mk (blk_of HB.out (.cells #[.slice none 0 0, .slice none 0 0, .int .i64 0, .int .i64 0, .int .i64 0, .int .i64 0, .int .i64 0] 83))
                    have HB := Hid.mk (HB.out.alloc HB.out.size (.cells #[.slice none 0 0, .slice none 0 0, .int .i64 0, .int .i64 0, .int .i64 0, .int .i64 0, .int .i64 0] 83))
                    have A0 := Hid.mk (blk_alloc A0.out (.cells #[.slice none 0 0, .slice none 0 0, .int .i64 0, .int .i64 0, .int .i64 0, .int .i64 0, .int .i64 0] 83))
                    have A1 := Hid.mk (blk_alloc A1.out (.cells #[.slice none 0 0, .slice none 0 0, .int .i64 0, .int .i64 0, .int .i64 0, .int .i64 0, .int .i64 0] 83))
                    have A2 := Hid.mk (blk_alloc A2.out (.cells #[.slice none 0 0, .slice none 0 0, .int .i64 0, .int .i64 0, .int .i64 0, .int .i64 0, .int .i64 0] 83))
                    (try have HZ := Hid.mk (HZ.out.below ((Below.refl _ _).alloc (Nat.le_refl _) (.cells #[.slice none 0 0, .slice none 0 0, .int .i64 0, .int .i64 0, .int .i64 0, .int .i64 0, .int .i64 0] 83))))
                    (try have HAt := Hid.mk (HAt.out.below ((Below.refl _ _).alloc (Nat.le_refl _) (.cells #[.slice none 0 0, .slice none 0 0, .int .i64 0, .int .i64 0, .int .i64 0, .int .i64 0, .int .i64 0] 83))))
                    (try have HO := Hid.mk (HO.out.below ((Below.refl _ _).alloc (Nat.le_refl _) (.cells #[.slice none 0 0, .slice none 0 0, .int .i64 0, .int .i64 0, .int .i64 0, .int .i64 0, .int .i64 0] 83))))
                    (try have H4 := Hid.mk (H4.out.below ((Below.refl _ _).alloc (Nat.le_refl _) (.cells #[.slice none 0 0, .slice none 0 0, .int .i64 0, .int .i64 0, .int .i64 0, .int .i64 0, .int .i64 0] 83))))
                    have AM := AM'
                    (try simp only [World.size_alloc, size_drew] at AM hM)
                    refine hK.out _ _ ?_ (fun hHeld => ?_)
                    · exact ⟨cell_alloc' hHeld.1 _, cell_alloc' hHeld.2.1 _, cell_alloc' hHeld.2.2.1 _, cell_alloc' hHeld.2.2.2.1 _, cell_alloc' hHeld.2.2.2.2.1 _, cell_alloc' hHeld.2.2.2.2.2 _⟩
                    clear hK K
                    (try simp only [Act.put, List.setIfInBounds_toArray, List.set_cons_zero, List.set_cons_succ, List.getElem_toArray, List.getElem_cons_zero, List.getElem_cons_succ])
                    refine wpAnyH_ready (rs := [12]) (by kernel_rfl) (by simp) ?_
                    refine AllReadyH.cons rfl (fun K hK => ?_) ?_
                    · go_simp
                      refine (zerosS Sn _ (by omega)).mono ?_
                      rintro e we ⟨a4, c4, rfl, hl, hb, hfr, -⟩
                      (try have N4 := Hid.mk (li_new (l := zeros Sn) hfr (blk_lt AM.out)))
                      have F4 : Hid (∀ x, a4 = some x → w.heap.size + 1 + 1 < x.block) := Hid.mk fun x hx => Nat.lt_of_lt_of_le (blk_lt A2.out) (hfr x hx)
                      have HB := Hid.mk (below_then HB.out hb)
                      have A0 := Hid.mk (blk_below A0.out hb)
                      have A1 := Hid.mk (blk_below A1.out hb)
                      have A2 := Hid.mk (blk_below A2.out hb)
                      (try have HZ := Hid.mk (HZ.out.below hb))
                      (try have HAt := Hid.mk (HAt.out.below hb))
                      (try have HO := Hid.mk (HO.out.below hb))
                      (try have H4 := Hid.mk (H4.out.below hb))
                      (try have AM := Hid.mk (blk_below AM.out hb))
                      have H4 := Hid.mk hl
                      clear hl hfr
                      refine hK.out _ _ ?_ (fun hHeld => ?_)
                      · exact ⟨cell_keep hb hHeld.1, cell_keep hb hHeld.2.1, cell_keep hb hHeld.2.2.1, cell_keep hb hHeld.2.2.2.1, cell_keep hb hHeld.2.2.2.2.1, cell_keep hb hHeld.2.2.2.2.2⟩
                      clear hK K
                      (try simp only [Act.put, List.setIfInBounds_toArray, List.set_cons_zero, List.set_cons_succ, List.getElem_toArray, List.getElem_cons_zero, List.getElem_cons_succ])
                      refine wpAnyH_take (i := 20) (v := ?_) rfl (by kernel_rfl) (by kernel_rfl) (by kernel_rfl) (fun _ _ _ h => h) (Or.inl ⟨by rfl, ?_⟩) (by assumption) ?_
                      rotate_left
                      · intro w hSw; (try dsimp only at hSw); go_simp; (try with_reducible rfl)
                      rotate_left
                      simp only [Act.put, List.setIfInBounds_toArray, List.set_cons_zero, List.set_cons_succ, List.getElem_toArray, List.getElem_cons_zero, List.getElem_cons_succ]
                      refine wpAnyH_ready (rs := [22]) (by kernel_rfl) (by simp) ?_
                      refine AllReadyH.cons rfl (fun K hK => ?_) ?_
                      · rw [if_pos (by rfl)]
                        have hne := Hid.mk (li_ne (x := .slice none 0 0) HO.out (by simp [startL]) AM.out (fun z => by simp))
                        refine wp_store_row _ _ _ rfl _ #[.slice (some ⟨g3, 0, none⟩) Rn c3', .slice a4 Sn c4, .int .i64 0, .int .i64 (I.V u).b, .int .i64 (-1), .int .i64 (I.nQ : Int), .int .i64 (-1)] rfl rfl _ _ AM.out infoMm rfl (by simp [Value.oneCell']) ?_
                        refine hK.out _ _ ?_ (fun hHeld => ?_)
                        · exact ⟨cell_srow hHeld.1 (by have z1 := hM.out; have z2 := hgv.out; first | omega | (have z3 := lt_drew z1; omega)), cell_srow hHeld.2.1 (by have z1 := hM.out; have z2 := hgv.out; first | omega | (have z3 := lt_drew z1; omega)), cell_srow hHeld.2.2.1 (by have z1 := hM.out; have z2 := hgv.out; first | omega | (have z3 := lt_drew z1; omega)), cell_srow hHeld.2.2.2.1 (by have z1 := hM.out; have z2 := hgv.out; first | omega | (have z3 := lt_drew z1; omega)), cell_srow hHeld.2.2.2.2.1 (by have z1 := hM.out; have z2 := hgv.out; first | omega | (have z3 := lt_drew z1; omega)), cell_srow hHeld.2.2.2.2.2 (by have z1 := hM.out; have z2 := hgv.out; first | omega | (have z3 := lt_drew z1; omega))⟩
                        clear hK K
                        (try simp only [Act.put, List.setIfInBounds_toArray, List.set_cons_zero, List.set_cons_succ, List.getElem_toArray, List.getElem_cons_zero, List.getElem_cons_succ])
                        refine wpAnyH_done (by kernel_rfl) ?_ _
                        go_wp2_with fail
                        go_meet
                        exact ⟨_, g3, c3', c4, a4, rfl, Hid.mk (by first | exact ⟨hM.out, HG3.out, HC3.out⟩ | exact ⟨lt_drew hM.out, HG3.out, HC3.out⟩), Hid.mk (srow_below HB.out (by have z1 := hM.out; have z2 := hgv.out; first | omega | (have z3 := lt_drew z1; omega)) _), Hid.mk (srow_self AM.out _), Hid.mk (srow_li HO.out hne.out _), Hid.mk (li_far H4.out N4.out _), Hid.mk ⟨F4.out, N4.out⟩, Hid.mk (srow_other A0.out (by have z1 := hM.out; have z2 := hgv.out; first | omega | (have z3 := lt_drew z1; omega)) _), Hid.mk (srow_other A1.out (by have z1 := hM.out; have z2 := hgv.out; first | omega | (have z3 := lt_drew z1; omega)) _), Hid.mk (srow_other A2.out (by have z1 := hM.out; have z2 := hgv.out; first | omega | (have z3 := lt_drew z1; omega)) _)⟩
                      exact AllReadyH.nil
                    exact AllReadyH.nil
                  exact AllReadyH.nil
                refine AllReadyH.cons rfl (fun K hK => ?_) ?_
                · go_simp
                  have hM := Hid.mk (blk_lt A2.out)
                  (try have N4 := Hid.mk (li_old H4.out))
                  have AM' := Hid.mk (blk_of HB.out (.cells #[.slice none 0 0, .slice none 0 0, .int .i64 0, .int .i64 0, .int .i64 0, .int .i64 0, .int .i64 0] 83))
                  have HB := Hid.mk (HB.out.alloc HB.out.size (.cells #[.slice none 0 0, .slice none 0 0, .int .i64 0, .int .i64 0, .int .i64 0, .int .i64 0, .int .i64 0] 83))
                  have A0 := Hid.mk (blk_alloc A0.out (.cells #[.slice none 0 0, .slice none 0 0, .int .i64 0, .int .i64 0, .int .i64 0, .int .i64 0, .int .i64 0] 83))
                  have A1 := Hid.mk (blk_alloc A1.out (.cells #[.slice none 0 0, .slice none 0 0, .int .i64 0, .int .i64 0, .int .i64 0, .int .i64 0, .int .i64 0] 83))
                  have A2 := Hid.mk (blk_alloc A2.out (.cells #[.slice none 0 0, .slice none 0 0, .int .i64 0, .int .i64 0, .int .i64 0, .int .i64 0, .int .i64 0] 83))
                  (try have HZ := Hid.mk (HZ.out.below ((Below.refl _ _).alloc (Nat.le_refl _) (.cells #[.slice none 0 0, .slice none 0 0, .int .i64 0, .int .i64 0, .int .i64 0, .int .i64 0, .int .i64 0] 83))))
                  (try have HAt := Hid.mk (HAt.out.below ((Below.refl _ _).alloc (Nat.le_refl _) (.cells #[.slice none 0 0, .slice none 0 0, .int .i64 0, .int .i64 0, .int .i64 0, .int .i64 0, .int .i64 0] 83))))
                  (try have HO := Hid.mk (HO.out.below ((Below.refl _ _).alloc (Nat.le_refl _) (.cells #[.slice none 0 0, .slice none 0 0, .int .i64 0, .int .i64 0, .int .i64 0, .int .i64 0, .int .i64 0] 83))))
                  (try have H4 := Hid.mk (H4.out.below ((Below.refl _ _).alloc (Nat.le_refl _) (.cells #[.slice none 0 0, .slice none 0 0, .int .i64 0, .int .i64 0, .int .i64 0, .int .i64 0, .int .i64 0] 83))))
                  have AM := AM'
                  (try simp only [World.size_alloc, size_drew] at AM hM)
                  refine hK.out _ _ ?_ (fun hHeld => ?_)
                  · exact ⟨cell_alloc' hHeld.1 _, cell_alloc' hHeld.2.1 _, cell_alloc' hHeld.2.2.1 _, cell_alloc' hHeld.2.2.2.1 _, cell_alloc' hHeld.2.2.2.2.1 _, cell_alloc' hHeld.2.2.2.2.2 _⟩
                  clear hK K
                  (try simp only [Act.put, List.setIfInBounds_toArray, List.set_cons_zero, List.set_cons_succ, List.getElem_toArray, List.getElem_cons_zero, List.getElem_cons_succ])
                  refine wpAnyH_ready (rs := [7]) (by kernel_rfl) (by simp) ?_
                  refine AllReadyH.cons rfl (fun K hK => ?_) ?_
                  · go_simp
                    refine (overS az (some ⟨ga, 0, none⟩) Rn cz 13 (zeros Rn) (startL I u) _ (zeros_len _).symm rfl HZ.out HAt.out lR0 HCZ.out (by omega)).mono ?_
                    rintro e wd ⟨g3, c3', rfl, hl, hb, hg3, hc3⟩
                    have HC3 := Hid.mk hc3
                    have HG3 := Hid.mk (Nat.lt_of_lt_of_le (blk_lt A2.out) hg3)
                    have HB := Hid.mk (below_then HB.out hb)
                    have A0 := Hid.mk (blk_below A0.out hb)
                    have A1 := Hid.mk (blk_below A1.out hb)
                    have A2 := Hid.mk (blk_below A2.out hb)
                    (try have HZ := Hid.mk (HZ.out.below hb))
                    (try have HAt := Hid.mk (HAt.out.below hb))
                    (try have HO := Hid.mk (HO.out.below hb))
                    (try have H4 := Hid.mk (H4.out.below hb))
                    (try have AM := Hid.mk (blk_below AM.out hb))
                    have HO := Hid.mk hl
                    clear hl hg3
                    refine hK.out _ _ ?_ (fun hHeld => ?_)
                    · exact ⟨cell_keep hb hHeld.1, cell_keep hb hHeld.2.1, cell_keep hb hHeld.2.2.1, cell_keep hb hHeld.2.2.2.1, cell_keep hb hHeld.2.2.2.2.1, cell_keep hb hHeld.2.2.2.2.2⟩
                    clear hK K
                    (try simp only [Act.put, List.setIfInBounds_toArray, List.set_cons_zero, List.set_cons_succ, List.getElem_toArray, List.getElem_cons_zero, List.getElem_cons_succ])
                    refine wpAnyH_ready (rs := [12]) (by kernel_rfl) (by simp) ?_
                    refine AllReadyH.cons rfl (fun K hK => ?_) ?_
                    · go_simp
                      refine (zerosS Sn _ (by omega)).mono ?_
                      rintro e we ⟨a4, c4, rfl, hl, hb, hfr, -⟩
                      (try have N4 := Hid.mk (li_new (l := zeros Sn) hfr (blk_lt AM.out)))
                      have F4 : Hid (∀ x, a4 = some x → w.heap.size + 1 + 1 < x.block) := Hid.mk fun x hx => Nat.lt_of_lt_of_le (blk_lt A2.out) (hfr x hx)
                      have HB := Hid.mk (below_then HB.out hb)
                      have A0 := Hid.mk (blk_below A0.out hb)
                      have A1 := Hid.mk (blk_below A1.out hb)
                      have A2 := Hid.mk (blk_below A2.out hb)
                      (try have HZ := Hid.mk (HZ.out.below hb))
                      (try have HAt := Hid.mk (HAt.out.below hb))
                      (try have HO := Hid.mk (HO.out.below hb))
                      (try have H4 := Hid.mk (H4.out.below hb))
                      (try have AM := Hid.mk (blk_below AM.out hb))
                      have H4 := Hid.mk hl
                      clear hl hfr
                      refine hK.out _ _ ?_ (fun hHeld => ?_)
                      · exact ⟨cell_keep hb hHeld.1, cell_keep hb hHeld.2.1, cell_keep hb hHeld.2.2.1, cell_keep hb hHeld.2.2.2.1, cell_keep hb hHeld.2.2.2.2.1, cell_keep hb hHeld.2.2.2.2.2⟩
                      clear hK K
                      (try simp only [Act.put, List.setIfInBounds_toArray, List.set_cons_zero, List.set_cons_succ, List.getElem_toArray, List.getElem_cons_zero, List.getElem_cons_succ])
                      refine wpAnyH_take (i := 20) (v := ?_) rfl (by kernel_rfl) (by kernel_rfl) (by kernel_rfl) (fun _ _ _ h => h) (Or.inl ⟨by rfl, ?_⟩) (by assumption) ?_
                      rotate_left
                      · intro w hSw; (try dsimp only at hSw); go_simp; (try with_reducible rfl)
                      rotate_left
                      simp only [Act.put, List.setIfInBounds_toArray, List.set_cons_zero, List.set_cons_succ, List.getElem_toArray, List.getElem_cons_zero, List.getElem_cons_succ]
                      refine wpAnyH_ready (rs := [22]) (by kernel_rfl) (by simp) ?_
                      refine AllReadyH.cons rfl (fun K hK => ?_) ?_
                      · rw [if_pos (by rfl)]
                        have hne := Hid.mk (li_ne (x := .slice none 0 0) HO.out (by simp [startL]) AM.out (fun z => by simp))
                        refine wp_store_row _ _ _ rfl _ #[.slice (some ⟨g3, 0, none⟩) Rn c3', .slice a4 Sn c4, .int .i64 0, .int .i64 (I.V u).b, .int .i64 (-1), .int .i64 (I.nQ : Int), .int .i64 (-1)] rfl rfl _ _ AM.out infoMm rfl (by simp [Value.oneCell']) ?_
                        refine hK.out _ _ ?_ (fun hHeld => ?_)
                        · exact ⟨cell_srow hHeld.1 (by have z1 := hM.out; have z2 := hgv.out; first | omega | (have z3 := lt_drew z1; omega)), cell_srow hHeld.2.1 (by have z1 := hM.out; have z2 := hgv.out; first | omega | (have z3 := lt_drew z1; omega)), cell_srow hHeld.2.2.1 (by have z1 := hM.out; have z2 := hgv.out; first | omega | (have z3 := lt_drew z1; omega)), cell_srow hHeld.2.2.2.1 (by have z1 := hM.out; have z2 := hgv.out; first | omega | (have z3 := lt_drew z1; omega)), cell_srow hHeld.2.2.2.2.1 (by have z1 := hM.out; have z2 := hgv.out; first | omega | (have z3 := lt_drew z1; omega)), cell_srow hHeld.2.2.2.2.2 (by have z1 := hM.out; have z2 := hgv.out; first | omega | (have z3 := lt_drew z1; omega))⟩
                        clear hK K
                        (try simp only [Act.put, List.setIfInBounds_toArray, List.set_cons_zero, List.set_cons_succ, List.getElem_toArray, List.getElem_cons_zero, List.getElem_cons_succ])
                        refine wpAnyH_done (by kernel_rfl) ?_ _
                        go_wp2_with fail
                        go_meet
                        exact ⟨_, g3, c3', c4, a4, rfl, Hid.mk (by first | exact ⟨hM.out, HG3.out, HC3.out⟩ | exact ⟨lt_drew hM.out, HG3.out, HC3.out⟩), Hid.mk (srow_below HB.out (by have z1 := hM.out; have z2 := hgv.out; first | omega | (have z3 := lt_drew z1; omega)) _), Hid.mk (srow_self AM.out _), Hid.mk (srow_li HO.out hne.out _), Hid.mk (li_far H4.out N4.out _), Hid.mk ⟨F4.out, N4.out⟩, Hid.mk (srow_other A0.out (by have z1 := hM.out; have z2 := hgv.out; first | omega | (have z3 := lt_drew z1; omega)) _), Hid.mk (srow_other A1.out (by have z1 := hM.out; have z2 := hgv.out; first | omega | (have z3 := lt_drew z1; omega)) _), Hid.mk (srow_other A2.out (by have z1 := hM.out; have z2 := hgv.out; first | omega | (have z3 := lt_drew z1; omega)) _)⟩
                      exact AllReadyH.nil
                    exact AllReadyH.nil
                  exact AllReadyH.nil
                exact AllReadyH.nil
              refine AllReadyH.cons rfl (fun K hK => ?_) ?_
              · go_simp
                have hM := Hid.mk (blk_lt A2.out)
                (try have N4 := Hid.mk (li_old H4.out))
                have AM' := Hid.mk (blk_of HB.out (.cells #[.slice none 0 0, .slice none 0 0, .int .i64 0, .int .i64 0, .int .i64 0, .int .i64 0, .int .i64 0] 83))
                have HB := Hid.mk (HB.out.alloc HB.out.size (.cells #[.slice none 0 0, .slice none 0 0, .int .i64 0, .int .i64 0, .int .i64 0, .int .i64 0, .int .i64 0] 83))
                have A0 := Hid.mk (blk_alloc A0.out (.cells #[.slice none 0 0, .slice none 0 0, .int .i64 0, .int .i64 0, .int .i64 0, .int .i64 0, .int .i64 0] 83))
                have A1 := Hid.mk (blk_alloc A1.out (.cells #[.slice none 0 0, .slice none 0 0, .int .i64 0, .int .i64 0, .int .i64 0, .int .i64 0, .int .i64 0] 83))
                have A2 := Hid.mk (blk_alloc A2.out (.cells #[.slice none 0 0, .slice none 0 0, .int .i64 0, .int .i64 0, .int .i64 0, .int .i64 0, .int .i64 0] 83))
                (try have HZ := Hid.mk (HZ.out.below ((Below.refl _ _).alloc (Nat.le_refl _) (.cells #[.slice none 0 0, .slice none 0 0, .int .i64 0, .int .i64 0, .int .i64 0, .int .i64 0, .int .i64 0] 83))))
                (try have HAt := Hid.mk (HAt.out.below ((Below.refl _ _).alloc (Nat.le_refl _) (.cells #[.slice none 0 0, .slice none 0 0, .int .i64 0, .int .i64 0, .int .i64 0, .int .i64 0, .int .i64 0] 83))))
                (try have HO := Hid.mk (HO.out.below ((Below.refl _ _).alloc (Nat.le_refl _) (.cells #[.slice none 0 0, .slice none 0 0, .int .i64 0, .int .i64 0, .int .i64 0, .int .i64 0, .int .i64 0] 83))))
                (try have H4 := Hid.mk (H4.out.below ((Below.refl _ _).alloc (Nat.le_refl _) (.cells #[.slice none 0 0, .slice none 0 0, .int .i64 0, .int .i64 0, .int .i64 0, .int .i64 0, .int .i64 0] 83))))
                have AM := AM'
                (try simp only [World.size_alloc, size_drew] at AM hM)
                refine hK.out _ _ ?_ (fun hHeld => ?_)
                · exact ⟨cell_alloc' hHeld.1 _, cell_alloc' hHeld.2.1 _, cell_alloc' hHeld.2.2.1 _, cell_alloc' hHeld.2.2.2.1 _, cell_alloc' hHeld.2.2.2.2.1 _, cell_alloc' hHeld.2.2.2.2.2 _⟩
                clear hK K
                (try simp only [Act.put, List.setIfInBounds_toArray, List.set_cons_zero, List.set_cons_succ, List.getElem_toArray, List.getElem_cons_zero, List.getElem_cons_succ])
                refine wpAnyH_ready (rs := [6]) (by kernel_rfl) (by simp) ?_
                refine AllReadyH.cons rfl (fun K hK => ?_) ?_
                · go_simp
                  refine (attrsS (some ⟨gv, ov, none⟩) b2 b3 d1 d2 d3 I u _ _ (HI.out.below HB.out) hu q1 q2 ob.out).mono ?_
                  rintro e wb ⟨ga, rfl, hl, hb, hga⟩
                  have HB := Hid.mk (below_then HB.out hb)
                  have A0 := Hid.mk (blk_below A0.out hb)
                  have A1 := Hid.mk (blk_below A1.out hb)
                  have A2 := Hid.mk (blk_below A2.out hb)
                  (try have HZ := Hid.mk (HZ.out.below hb))
                  (try have HAt := Hid.mk (HAt.out.below hb))
                  (try have HO := Hid.mk (HO.out.below hb))
                  (try have H4 := Hid.mk (H4.out.below hb))
                  (try have AM := Hid.mk (blk_below AM.out hb))
                  have HAt := Hid.mk hl
                  clear hl hga
                  refine hK.out _ _ ?_ (fun hHeld => ?_)
                  · exact ⟨cell_keep hb hHeld.1, cell_keep hb hHeld.2.1, cell_keep hb hHeld.2.2.1, cell_keep hb hHeld.2.2.2.1, cell_keep hb hHeld.2.2.2.2.1, cell_keep hb hHeld.2.2.2.2.2⟩
                  clear hK K
                  (try simp only [Act.put, List.setIfInBounds_toArray, List.set_cons_zero, List.set_cons_succ, List.getElem_toArray, List.getElem_cons_zero, List.getElem_cons_succ])
                  refine wpAnyH_ready (rs := [7]) (by kernel_rfl) (by simp) ?_
                  refine AllReadyH.cons rfl (fun K hK => ?_) ?_
                  · go_simp
                    refine (overS az (some ⟨ga, 0, none⟩) Rn cz 13 (zeros Rn) (startL I u) _ (zeros_len _).symm rfl HZ.out HAt.out lR0 HCZ.out (by omega)).mono ?_
                    rintro e wd ⟨g3, c3', rfl, hl, hb, hg3, hc3⟩
                    have HC3 := Hid.mk hc3
                    have HG3 := Hid.mk (Nat.lt_of_lt_of_le (blk_lt A2.out) hg3)
                    have HB := Hid.mk (below_then HB.out hb)
                    have A0 := Hid.mk (blk_below A0.out hb)
                    have A1 := Hid.mk (blk_below A1.out hb)
                    have A2 := Hid.mk (blk_below A2.out hb)
                    (try have HZ := Hid.mk (HZ.out.below hb))
                    (try have HAt := Hid.mk (HAt.out.below hb))
                    (try have HO := Hid.mk (HO.out.below hb))
                    (try have H4 := Hid.mk (H4.out.below hb))
                    (try have AM := Hid.mk (blk_below AM.out hb))
                    have HO := Hid.mk hl
                    clear hl hg3
                    refine hK.out _ _ ?_ (fun hHeld => ?_)
                    · exact ⟨cell_keep hb hHeld.1, cell_keep hb hHeld.2.1, cell_keep hb hHeld.2.2.1, cell_keep hb hHeld.2.2.2.1, cell_keep hb hHeld.2.2.2.2.1, cell_keep hb hHeld.2.2.2.2.2⟩
                    clear hK K
                    (try simp only [Act.put, List.setIfInBounds_toArray, List.set_cons_zero, List.set_cons_succ, List.getElem_toArray, List.getElem_cons_zero, List.getElem_cons_succ])
                    refine wpAnyH_ready (rs := [12]) (by kernel_rfl) (by simp) ?_
                    refine AllReadyH.cons rfl (fun K hK => ?_) ?_
                    · go_simp
                      refine (zerosS Sn _ (by omega)).mono ?_
                      rintro e we ⟨a4, c4, rfl, hl, hb, hfr, -⟩
                      (try have N4 := Hid.mk (li_new (l := zeros Sn) hfr (blk_lt AM.out)))
                      have F4 : Hid (∀ x, a4 = some x → w.heap.size + 1 + 1 < x.block) := Hid.mk fun x hx => Nat.lt_of_lt_of_le (blk_lt A2.out) (hfr x hx)
                      have HB := Hid.mk (below_then HB.out hb)
                      have A0 := Hid.mk (blk_below A0.out hb)
                      have A1 := Hid.mk (blk_below A1.out hb)
                      have A2 := Hid.mk (blk_below A2.out hb)
                      (try have HZ := Hid.mk (HZ.out.below hb))
                      (try have HAt := Hid.mk (HAt.out.below hb))
                      (try have HO := Hid.mk (HO.out.below hb))
                      (try have H4 := Hid.mk (H4.out.below hb))
                      (try have AM := Hid.mk (blk_below AM.out hb))
                      have H4 := Hid.mk hl
                      clear hl hfr
                      refine hK.out _ _ ?_ (fun hHeld => ?_)
                      · exact ⟨cell_keep hb hHeld.1, cell_keep hb hHeld.2.1, cell_keep hb hHeld.2.2.1, cell_keep hb hHeld.2.2.2.1, cell_keep hb hHeld.2.2.2.2.1, cell_keep hb hHeld.2.2.2.2.2⟩
                      clear hK K
                      (try simp only [Act.put, List.setIfInBounds_toArray, List.set_cons_zero, List.set_cons_succ, List.getElem_toArray, List.getElem_cons_zero, List.getElem_cons_succ])
                      refine wpAnyH_take (i := 20) (v := ?_) rfl (by kernel_rfl) (by kernel_rfl) (by kernel_rfl) (fun _ _ _ h => h) (Or.inl ⟨by rfl, ?_⟩) (by assumption) ?_
                      rotate_left
                      · intro w hSw; (try dsimp only at hSw); go_simp; (try with_reducible rfl)
                      rotate_left
                      simp only [Act.put, List.setIfInBounds_toArray, List.set_cons_zero, List.set_cons_succ, List.getElem_toArray, List.getElem_cons_zero, List.getElem_cons_succ]
                      refine wpAnyH_ready (rs := [22]) (by kernel_rfl) (by simp) ?_
                      refine AllReadyH.cons rfl (fun K hK => ?_) ?_
                      · rw [if_pos (by rfl)]
                        have hne := Hid.mk (li_ne (x := .slice none 0 0) HO.out (by simp [startL]) AM.out (fun z => by simp))
                        refine wp_store_row _ _ _ rfl _ #[.slice (some ⟨g3, 0, none⟩) Rn c3', .slice a4 Sn c4, .int .i64 0, .int .i64 (I.V u).b, .int .i64 (-1), .int .i64 (I.nQ : Int), .int .i64 (-1)] rfl rfl _ _ AM.out infoMm rfl (by simp [Value.oneCell']) ?_
                        refine hK.out _ _ ?_ (fun hHeld => ?_)
                        · exact ⟨cell_srow hHeld.1 (by have z1 := hM.out; have z2 := hgv.out; first | omega | (have z3 := lt_drew z1; omega)), cell_srow hHeld.2.1 (by have z1 := hM.out; have z2 := hgv.out; first | omega | (have z3 := lt_drew z1; omega)), cell_srow hHeld.2.2.1 (by have z1 := hM.out; have z2 := hgv.out; first | omega | (have z3 := lt_drew z1; omega)), cell_srow hHeld.2.2.2.1 (by have z1 := hM.out; have z2 := hgv.out; first | omega | (have z3 := lt_drew z1; omega)), cell_srow hHeld.2.2.2.2.1 (by have z1 := hM.out; have z2 := hgv.out; first | omega | (have z3 := lt_drew z1; omega)), cell_srow hHeld.2.2.2.2.2 (by have z1 := hM.out; have z2 := hgv.out; first | omega | (have z3 := lt_drew z1; omega))⟩
                        clear hK K
                        (try simp only [Act.put, List.setIfInBounds_toArray, List.set_cons_zero, List.set_cons_succ, List.getElem_toArray, List.getElem_cons_zero, List.getElem_cons_succ])
                        refine wpAnyH_done (by kernel_rfl) ?_ _
                        go_wp2_with fail
                        go_meet
                        exact ⟨_, g3, c3', c4, a4, rfl, Hid.mk (by first | exact ⟨hM.out, HG3.out, HC3.out⟩ | exact ⟨lt_drew hM.out, HG3.out, HC3.out⟩), Hid.mk (srow_below HB.out (by have z1 := hM.out; have z2 := hgv.out; first | omega | (have z3 := lt_drew z1; omega)) _), Hid.mk (srow_self AM.out _), Hid.mk (srow_li HO.out hne.out _), Hid.mk (li_far H4.out N4.out _), Hid.mk ⟨F4.out, N4.out⟩, Hid.mk (srow_other A0.out (by have z1 := hM.out; have z2 := hgv.out; first | omega | (have z3 := lt_drew z1; omega)) _), Hid.mk (srow_other A1.out (by have z1 := hM.out; have z2 := hgv.out; first | omega | (have z3 := lt_drew z1; omega)) _), Hid.mk (srow_other A2.out (by have z1 := hM.out; have z2 := hgv.out; first | omega | (have z3 := lt_drew z1; omega)) _)⟩
                      exact AllReadyH.nil
                    exact AllReadyH.nil
                  exact AllReadyH.nil
                exact AllReadyH.nil
              exact AllReadyH.nil
            refine AllReadyH.cons rfl (fun K hK => ?_) ?_
            · go_simp
              have hM := Hid.mk (blk_lt A2.out)
              (try have N4 := Hid.mk (li_old H4.out))
              have AM' := Hid.mk (blk_of HB.out (.cells #[.slice none 0 0, .slice none 0 0, .int .i64 0, .int .i64 0, .int .i64 0, .int .i64 0, .int .i64 0] 83))
              have HB := Hid.mk (HB.out.alloc HB.out.size (.cells #[.slice none 0 0, .slice none 0 0, .int .i64 0, .int .i64 0, .int .i64 0, .int .i64 0, .int .i64 0] 83))
              have A0 := Hid.mk (blk_alloc A0.out (.cells #[.slice none 0 0, .slice none 0 0, .int .i64 0, .int .i64 0, .int .i64 0, .int .i64 0, .int .i64 0] 83))
              have A1 := Hid.mk (blk_alloc A1.out (.cells #[.slice none 0 0, .slice none 0 0, .int .i64 0, .int .i64 0, .int .i64 0, .int .i64 0, .int .i64 0] 83))
              have A2 := Hid.mk (blk_alloc A2.out (.cells #[.slice none 0 0, .slice none 0 0, .int .i64 0, .int .i64 0, .int .i64 0, .int .i64 0, .int .i64 0] 83))
              (try have HZ := Hid.mk (HZ.out.below ((Below.refl _ _).alloc (Nat.le_refl _) (.cells #[.slice none 0 0, .slice none 0 0, .int .i64 0, .int .i64 0, .int .i64 0, .int .i64 0, .int .i64 0] 83))))
              (try have HAt := Hid.mk (HAt.out.below ((Below.refl _ _).alloc (Nat.le_refl _) (.cells #[.slice none 0 0, .slice none 0 0, .int .i64 0, .int .i64 0, .int .i64 0, .int .i64 0, .int .i64 0] 83))))
              (try have HO := Hid.mk (HO.out.below ((Below.refl _ _).alloc (Nat.le_refl _) (.cells #[.slice none 0 0, .slice none 0 0, .int .i64 0, .int .i64 0, .int .i64 0, .int .i64 0, .int .i64 0] 83))))
              (try have H4 := Hid.mk (H4.out.below ((Below.refl _ _).alloc (Nat.le_refl _) (.cells #[.slice none 0 0, .slice none 0 0, .int .i64 0, .int .i64 0, .int .i64 0, .int .i64 0, .int .i64 0] 83))))
              have AM := AM'
              (try simp only [World.size_alloc, size_drew] at AM hM)
              refine hK.out _ _ ?_ (fun hHeld => ?_)
              · exact ⟨cell_alloc' hHeld.1 _, cell_alloc' hHeld.2.1 _, cell_alloc' hHeld.2.2.1 _, cell_alloc' hHeld.2.2.2.1 _, cell_alloc' hHeld.2.2.2.2.1 _, cell_alloc' hHeld.2.2.2.2.2 _⟩
              clear hK K
              (try simp only [Act.put, List.setIfInBounds_toArray, List.set_cons_zero, List.set_cons_succ, List.getElem_toArray, List.getElem_cons_zero, List.getElem_cons_succ])
              refine wpAnyH_ready (rs := [5]) (by kernel_rfl) (by simp) ?_
              refine AllReadyH.cons rfl (fun K hK => ?_) ?_
              · go_simp
                have HB := Hid.mk (HB.out.alloc HB.out.size (.cells #[] 2))
                have A0 := Hid.mk (blk_alloc A0.out (.cells #[] 2))
                have A1 := Hid.mk (blk_alloc A1.out (.cells #[] 2))
                have A2 := Hid.mk (blk_alloc A2.out (.cells #[] 2))
                (try have HZ := Hid.mk (HZ.out.below ((Below.refl _ _).alloc (Nat.le_refl _) (.cells #[] 2))))
                (try have HAt := Hid.mk (HAt.out.below ((Below.refl _ _).alloc (Nat.le_refl _) (.cells #[] 2))))
                (try have HO := Hid.mk (HO.out.below ((Below.refl _ _).alloc (Nat.le_refl _) (.cells #[] 2))))
                (try have H4 := Hid.mk (H4.out.below ((Below.refl _ _).alloc (Nat.le_refl _) (.cells #[] 2))))
                (try have AM := Hid.mk (blk_alloc AM.out (.cells #[] 2)))
                refine hK.out _ _ ?_ (fun hHeld => ?_)
                · exact ⟨cell_alloc' hHeld.1 _, cell_alloc' hHeld.2.1 _, cell_alloc' hHeld.2.2.1 _, cell_alloc' hHeld.2.2.2.1 _, cell_alloc' hHeld.2.2.2.2.1 _, cell_alloc' hHeld.2.2.2.2.2 _⟩
                clear hK K
                (try simp only [Act.put, List.setIfInBounds_toArray, List.set_cons_zero, List.set_cons_succ, List.getElem_toArray, List.getElem_cons_zero, List.getElem_cons_succ])
                refine wpAnyH_ready (rs := [6]) (by kernel_rfl) (by simp) ?_
                refine AllReadyH.cons rfl (fun K hK => ?_) ?_
                · go_simp
                  refine (attrsS (some ⟨gv, ov, none⟩) b2 b3 d1 d2 d3 I u _ _ (HI.out.below HB.out) hu q1 q2 ob.out).mono ?_
                  rintro e wb ⟨ga, rfl, hl, hb, hga⟩
                  have HB := Hid.mk (below_then HB.out hb)
                  have A0 := Hid.mk (blk_below A0.out hb)
                  have A1 := Hid.mk (blk_below A1.out hb)
                  have A2 := Hid.mk (blk_below A2.out hb)
                  (try have HZ := Hid.mk (HZ.out.below hb))
                  (try have HAt := Hid.mk (HAt.out.below hb))
                  (try have HO := Hid.mk (HO.out.below hb))
                  (try have H4 := Hid.mk (H4.out.below hb))
                  (try have AM := Hid.mk (blk_below AM.out hb))
                  have HAt := Hid.mk hl
                  clear hl hga
                  refine hK.out _ _ ?_ (fun hHeld => ?_)
                  · exact ⟨cell_keep hb hHeld.1, cell_keep hb hHeld.2.1, cell_keep hb hHeld.2.2.1, cell_keep hb hHeld.2.2.2.1, cell_keep hb hHeld.2.2.2.2.1, cell_keep hb hHeld.2.2.2.2.2⟩
                  clear hK K
                  (try simp only [Act.put, List.setIfInBounds_toArray, List.set_cons_zero, List.set_cons_succ, List.getElem_toArray, List.getElem_cons_zero, List.getElem_cons_succ])
                  refine wpAnyH_ready (rs := [7]) (by kernel_rfl) (by simp) ?_
                  refine AllReadyH.cons rfl (fun K hK => ?_) ?_
                  · go_simp
                    refine (overS az (some ⟨ga, 0, none⟩) Rn cz 13 (zeros Rn) (startL I u) _ (zeros_len _).symm rfl HZ.out HAt.out lR0 HCZ.out (by omega)).mono ?_
                    rintro e wd ⟨g3, c3', rfl, hl, hb, hg3, hc3⟩
                    have HC3 := Hid.mk hc3
                    have HG3 := Hid.mk (Nat.lt_of_lt_of_le (blk_lt A2.out) hg3)
                    have HB := Hid.mk (below_then HB.out hb)
                    have A0 := Hid.mk (blk_below A0.out hb)
                    have A1 := Hid.mk (blk_below A1.out hb)
                    have A2 := Hid.mk (blk_below A2.out hb)
                    (try have HZ := Hid.mk (HZ.out.below hb))
                    (try have HAt := Hid.mk (HAt.out.below hb))
                    (try have HO := Hid.mk (HO.out.below hb))
                    (try have H4 := Hid.mk (H4.out.below hb))
                    (try have AM := Hid.mk (blk_below AM.out hb))
                    have HO := Hid.mk hl
                    clear hl hg3
                    refine hK.out _ _ ?_ (fun hHeld => ?_)
                    · exact ⟨cell_keep hb hHeld.1, cell_keep hb hHeld.2.1, cell_keep hb hHeld.2.2.1, cell_keep hb hHeld.2.2.2.1, cell_keep hb hHeld.2.2.2.2.1, cell_keep hb hHeld.2.2.2.2.2⟩
                    clear hK K
                    (try simp only [Act.put, List.setIfInBounds_toArray, List.set_cons_zero, List.set_cons_succ, List.getElem_toArray, List.getElem_cons_zero, List.getElem_cons_succ])
                    refine wpAnyH_ready (rs := [12]) (by kernel_rfl) (by simp) ?_
                    refine AllReadyH.cons rfl (fun K hK => ?_) ?_
                    · go_simp
                      refine (zerosS Sn _ (by omega)).mono ?_
                      rintro e we ⟨a4, c4, rfl, hl, hb, hfr, -⟩
                      (try have N4 := Hid.mk (li_new (l := zeros Sn) hfr (blk_lt AM.out)))
                      have F4 : Hid (∀ x, a4 = some x → w.heap.size + 1 + 1 < x.block) := Hid.mk fun x hx => Nat.lt_of_lt_of_le (blk_lt A2.out) (hfr x hx)
                      have HB := Hid.mk (below_then HB.out hb)
                      have A0 := Hid.mk (blk_below A0.out hb)
                      have A1 := Hid.mk (blk_below A1.out hb)
                      have A2 := Hid.mk (blk_below A2.out hb)
                      (try have HZ := Hid.mk (HZ.out.below hb))
                      (try have HAt := Hid.mk (HAt.out.below hb))
                      (try have HO := Hid.mk (HO.out.below hb))
                      (try have H4 := Hid.mk (H4.out.below hb))
                      (try have AM := Hid.mk (blk_below AM.out hb))
                      have H4 := Hid.mk hl
                      clear hl hfr
                      refine hK.out _ _ ?_ (fun hHeld => ?_)
                      · exact ⟨cell_keep hb hHeld.1, cell_keep hb hHeld.2.1, cell_keep hb hHeld.2.2.1, cell_keep hb hHeld.2.2.2.1, cell_keep hb hHeld.2.2.2.2.1, cell_keep hb hHeld.2.2.2.2.2⟩
                      clear hK K
                      (try simp only [Act.put, List.setIfInBounds_toArray, List.set_cons_zero, List.set_cons_succ, List.getElem_toArray, List.getElem_cons_zero, List.getElem_cons_succ])
                      refine wpAnyH_take (i := 20) (v := ?_) rfl (by kernel_rfl) (by kernel_rfl) (by kernel_rfl) (fun _ _ _ h => h) (Or.inl ⟨by rfl, ?_⟩) (by assumption) ?_
                      rotate_left
                      · intro w hSw; (try dsimp only at hSw); go_simp; (try with_reducible rfl)
                      rotate_left
                      simp only [Act.put, List.setIfInBounds_toArray, List.set_cons_zero, List.set_cons_succ, List.getElem_toArray, List.getElem_cons_zero, List.getElem_cons_succ]
                      refine wpAnyH_ready (rs := [22]) (by kernel_rfl) (by simp) ?_
                      refine AllReadyH.cons rfl (fun K hK => ?_) ?_
                      · rw [if_pos (by rfl)]
                        have hne := Hid.mk (li_ne (x := .slice none 0 0) HO.out (by simp [startL]) AM.out (fun z => by simp))
                        refine wp_store_row _ _ _ rfl _ #[.slice (some ⟨g3, 0, none⟩) Rn c3', .slice a4 Sn c4, .int .i64 0, .int .i64 (I.V u).b, .int .i64 (-1), .int .i64 (I.nQ : Int), .int .i64 (-1)] rfl rfl _ _ AM.out infoMm rfl (by simp [Value.oneCell']) ?_
                        refine hK.out _ _ ?_ (fun hHeld => ?_)
                        · exact ⟨cell_srow hHeld.1 (by have z1 := hM.out; have z2 := hgv.out; first | omega | (have z3 := lt_drew z1; omega)), cell_srow hHeld.2.1 (by have z1 := hM.out; have z2 := hgv.out; first | omega | (have z3 := lt_drew z1; omega)), cell_srow hHeld.2.2.1 (by have z1 := hM.out; have z2 := hgv.out; first | omega | (have z3 := lt_drew z1; omega)), cell_srow hHeld.2.2.2.1 (by have z1 := hM.out; have z2 := hgv.out; first | omega | (have z3 := lt_drew z1; omega)), cell_srow hHeld.2.2.2.2.1 (by have z1 := hM.out; have z2 := hgv.out; first | omega | (have z3 := lt_drew z1; omega)), cell_srow hHeld.2.2.2.2.2 (by have z1 := hM.out; have z2 := hgv.out; first | omega | (have z3 := lt_drew z1; omega))⟩
                        clear hK K
                        (try simp only [Act.put, List.setIfInBounds_toArray, List.set_cons_zero, List.set_cons_succ, List.getElem_toArray, List.getElem_cons_zero, List.getElem_cons_succ])
                        refine wpAnyH_done (by kernel_rfl) ?_ _
                        go_wp2_with fail
                        go_meet
                        exact ⟨_, g3, c3', c4, a4, rfl, Hid.mk (by first | exact ⟨hM.out, HG3.out, HC3.out⟩ | exact ⟨lt_drew hM.out, HG3.out, HC3.out⟩), Hid.mk (srow_below HB.out (by have z1 := hM.out; have z2 := hgv.out; first | omega | (have z3 := lt_drew z1; omega)) _), Hid.mk (srow_self AM.out _), Hid.mk (srow_li HO.out hne.out _), Hid.mk (li_far H4.out N4.out _), Hid.mk ⟨F4.out, N4.out⟩, Hid.mk (srow_other A0.out (by have z1 := hM.out; have z2 := hgv.out; first | omega | (have z3 := lt_drew z1; omega)) _), Hid.mk (srow_other A1.out (by have z1 := hM.out; have z2 := hgv.out; first | omega | (have z3 := lt_drew z1; omega)) _), Hid.mk (srow_other A2.out (by have z1 := hM.out; have z2 := hgv.out; first | omega | (have z3 := lt_drew z1; omega)) _)⟩
                      exact AllReadyH.nil
                    exact AllReadyH.nil
                  exact AllReadyH.nil
                exact AllReadyH.nil
              exact AllReadyH.nil
            exact AllReadyH.nil
          refine AllReadyH.cons rfl (fun K hK => ?_) ?_
          · go_simp
            have HB := Hid.mk (HB.out.alloc HB.out.size (.cells #[] 2))
            have A0 := Hid.mk (blk_alloc A0.out (.cells #[] 2))
            have A1 := Hid.mk (blk_alloc A1.out (.cells #[] 2))
            have A2 := Hid.mk (blk_alloc A2.out (.cells #[] 2))
            (try have HZ := Hid.mk (HZ.out.below ((Below.refl _ _).alloc (Nat.le_refl _) (.cells #[] 2))))
            (try have HAt := Hid.mk (HAt.out.below ((Below.refl _ _).alloc (Nat.le_refl _) (.cells #[] 2))))
            (try have HO := Hid.mk (HO.out.below ((Below.refl _ _).alloc (Nat.le_refl _) (.cells #[] 2))))
            (try have H4 := Hid.mk (H4.out.below ((Below.refl _ _).alloc (Nat.le_refl _) (.cells #[] 2))))
            (try have AM := Hid.mk (blk_alloc AM.out (.cells #[] 2)))
            refine hK.out _ _ ?_ (fun hHeld => ?_)
            · exact ⟨cell_alloc' hHeld.1 _, cell_alloc' hHeld.2.1 _, cell_alloc' hHeld.2.2.1 _, cell_alloc' hHeld.2.2.2.1 _, cell_alloc' hHeld.2.2.2.2.1 _, cell_alloc' hHeld.2.2.2.2.2 _⟩
            clear hK K
            (try simp only [Act.put, List.setIfInBounds_toArray, List.set_cons_zero, List.set_cons_succ, List.getElem_toArray, List.getElem_cons_zero, List.getElem_cons_succ])
            refine wpAnyH_ready (rs := [2, 21]) (by kernel_rfl) (by simp) ?_
            refine AllReadyH.cons rfl (fun K hK => ?_) ?_
            · go_simp
              refine (zerosS Rn _ (by omega)).mono ?_
              rintro e wa ⟨az, cz, rfl, hl, hb, hfr, hcz⟩
              have HB := Hid.mk (below_then HB.out hb)
              have A0 := Hid.mk (blk_below A0.out hb)
              have A1 := Hid.mk (blk_below A1.out hb)
              have A2 := Hid.mk (blk_below A2.out hb)
              (try have HZ := Hid.mk (HZ.out.below hb))
              (try have HAt := Hid.mk (HAt.out.below hb))
              (try have HO := Hid.mk (HO.out.below hb))
              (try have H4 := Hid.mk (H4.out.below hb))
              (try have AM := Hid.mk (blk_below AM.out hb))
              have HZ := Hid.mk hl
              have HCZ := Hid.mk hcz
              clear hl hcz hfr
              refine hK.out _ _ ?_ (fun hHeld => ?_)
              · exact ⟨cell_keep hb hHeld.1, cell_keep hb hHeld.2.1, cell_keep hb hHeld.2.2.1, cell_keep hb hHeld.2.2.2.1, cell_keep hb hHeld.2.2.2.2.1, cell_keep hb hHeld.2.2.2.2.2⟩
              clear hK K
              (try simp only [Act.put, List.setIfInBounds_toArray, List.set_cons_zero, List.set_cons_succ, List.getElem_toArray, List.getElem_cons_zero, List.getElem_cons_succ])
              refine wpAnyH_ready (rs := [6, 21]) (by kernel_rfl) (by simp) ?_
              refine AllReadyH.cons rfl (fun K hK => ?_) ?_
              · go_simp
                refine (attrsS (some ⟨gv, ov, none⟩) b2 b3 d1 d2 d3 I u _ _ (HI.out.below HB.out) hu q1 q2 ob.out).mono ?_
                rintro e wb ⟨ga, rfl, hl, hb, hga⟩
                have HB := Hid.mk (below_then HB.out hb)
                have A0 := Hid.mk (blk_below A0.out hb)
                have A1 := Hid.mk (blk_below A1.out hb)
                have A2 := Hid.mk (blk_below A2.out hb)
                (try have HZ := Hid.mk (HZ.out.below hb))
                (try have HAt := Hid.mk (HAt.out.below hb))
                (try have HO := Hid.mk (HO.out.below hb))
                (try have H4 := Hid.mk (H4.out.below hb))
                (try have AM := Hid.mk (blk_below AM.out hb))
                have HAt := Hid.mk hl
                clear hl hga
                refine hK.out _ _ ?_ (fun hHeld => ?_)
                · exact ⟨cell_keep hb hHeld.1, cell_keep hb hHeld.2.1, cell_keep hb hHeld.2.2.1, cell_keep hb hHeld.2.2.2.1, cell_keep hb hHeld.2.2.2.2.1, cell_keep hb hHeld.2.2.2.2.2⟩
                clear hK K
                (try simp only [Act.put, List.setIfInBounds_toArray, List.set_cons_zero, List.set_cons_succ, List.getElem_toArray, List.getElem_cons_zero, List.getElem_cons_succ])
                refine wpAnyH_ready (rs := [7, 21]) (by kernel_rfl) (by simp) ?_
                refine AllReadyH.cons rfl (fun K hK => ?_) ?_
                · go_simp
                  refine (overS az (some ⟨ga, 0, none⟩) Rn cz 13 (zeros Rn) (startL I u) _ (zeros_len _).symm rfl HZ.out HAt.out lR0 HCZ.out (by omega)).mono ?_
                  rintro e wd ⟨g3, c3', rfl, hl, hb, hg3, hc3⟩
                  have HC3 := Hid.mk hc3
                  have HG3 := Hid.mk (Nat.lt_of_lt_of_le (blk_lt A2.out) hg3)
                  have HB := Hid.mk (below_then HB.out hb)
                  have A0 := Hid.mk (blk_below A0.out hb)
                  have A1 := Hid.mk (blk_below A1.out hb)
                  have A2 := Hid.mk (blk_below A2.out hb)
                  (try have HZ := Hid.mk (HZ.out.below hb))
                  (try have HAt := Hid.mk (HAt.out.below hb))
                  (try have HO := Hid.mk (HO.out.below hb))
                  (try have H4 := Hid.mk (H4.out.below hb))
                  (try have AM := Hid.mk (blk_below AM.out hb))
                  have HO := Hid.mk hl
                  clear hl hg3
                  refine hK.out _ _ ?_ (fun hHeld => ?_)
                  · exact ⟨cell_keep hb hHeld.1, cell_keep hb hHeld.2.1, cell_keep hb hHeld.2.2.1, cell_keep hb hHeld.2.2.2.1, cell_keep hb hHeld.2.2.2.2.1, cell_keep hb hHeld.2.2.2.2.2⟩
                  clear hK K
                  (try simp only [Act.put, List.setIfInBounds_toArray, List.set_cons_zero, List.set_cons_succ, List.getElem_toArray, List.getElem_cons_zero, List.getElem_cons_succ])
                  refine wpAnyH_ready (rs := [12, 21]) (by kernel_rfl) (by simp) ?_
                  refine AllReadyH.cons rfl (fun K hK => ?_) ?_
                  · go_simp
                    refine (zerosS Sn _ (by omega)).mono ?_
                    rintro e we ⟨a4, c4, rfl, hl, hb, hfr, -⟩
                    (try have N4 := Hid.mk (li_new (l := zeros Sn) hfr (blk_lt AM.out)))
                    have F4 : Hid (∀ x, a4 = some x → w.heap.size + 1 + 1 < x.block) := Hid.mk fun x hx => Nat.lt_of_lt_of_le (blk_lt A2.out) (hfr x hx)
                    have HB := Hid.mk (below_then HB.out hb)
                    have A0 := Hid.mk (blk_below A0.out hb)
                    have A1 := Hid.mk (blk_below A1.out hb)
                    have A2 := Hid.mk (blk_below A2.out hb)
                    (try have HZ := Hid.mk (HZ.out.below hb))
                    (try have HAt := Hid.mk (HAt.out.below hb))
                    (try have HO := Hid.mk (HO.out.below hb))
                    (try have H4 := Hid.mk (H4.out.below hb))
                    (try have AM := Hid.mk (blk_below AM.out hb))
                    have H4 := Hid.mk hl
                    clear hl hfr
                    refine hK.out _ _ ?_ (fun hHeld => ?_)
                    · exact ⟨cell_keep hb hHeld.1, cell_keep hb hHeld.2.1, cell_keep hb hHeld.2.2.1, cell_keep hb hHeld.2.2.2.1, cell_keep hb hHeld.2.2.2.2.1, cell_keep hb hHeld.2.2.2.2.2⟩
                    clear hK K
                    (try simp only [Act.put, List.setIfInBounds_toArray, List.set_cons_zero, List.set_cons_succ, List.getElem_toArray, List.getElem_cons_zero, List.getElem_cons_succ])
                    refine wpAnyH_take (i := 20) (v := ?_) rfl (by kernel_rfl) (by kernel_rfl) (by kernel_rfl) (fun _ _ _ h => h) (Or.inl ⟨by rfl, ?_⟩) (by assumption) ?_
                    rotate_left
                    · intro w hSw; (try dsimp only at hSw); go_simp; (try with_reducible rfl)
                    rotate_left
                    simp only [Act.put, List.setIfInBounds_toArray, List.set_cons_zero, List.set_cons_succ, List.getElem_toArray, List.getElem_cons_zero, List.getElem_cons_succ]
                    refine wpAnyH_ready (rs := [21]) (by kernel_rfl) (by simp) ?_
                    refine AllReadyH.cons rfl (fun K hK => ?_) ?_
                    · go_simp
                      have hM := Hid.mk (blk_lt A2.out)
                      (try have N4 := Hid.mk (li_old H4.out))
                      have AM' := Hid.mk (blk_of HB.out (.cells #[.slice none 0 0, .slice none 0 0, .int .i64 0, .int .i64 0, .int .i64 0, .int .i64 0, .int .i64 0] 83))
                      have HB := Hid.mk (HB.out.alloc HB.out.size (.cells #[.slice none 0 0, .slice none 0 0, .int .i64 0, .int .i64 0, .int .i64 0, .int .i64 0, .int .i64 0] 83))
                      have A0 := Hid.mk (blk_alloc A0.out (.cells #[.slice none 0 0, .slice none 0 0, .int .i64 0, .int .i64 0, .int .i64 0, .int .i64 0, .int .i64 0] 83))
                      have A1 := Hid.mk (blk_alloc A1.out (.cells #[.slice none 0 0, .slice none 0 0, .int .i64 0, .int .i64 0, .int .i64 0, .int .i64 0, .int .i64 0] 83))
                      have A2 := Hid.mk (blk_alloc A2.out (.cells #[.slice none 0 0, .slice none 0 0, .int .i64 0, .int .i64 0, .int .i64 0, .int .i64 0, .int .i64 0] 83))
                      (try have HZ := Hid.mk (HZ.out.below ((Below.refl _ _).alloc (Nat.le_refl _) (.cells #[.slice none 0 0, .slice none 0 0, .int .i64 0, .int .i64 0, .int .i64 0, .int .i64 0, .int .i64 0] 83))))
                      (try have HAt := Hid.mk (HAt.out.below ((Below.refl _ _).alloc (Nat.le_refl _) (.cells #[.slice none 0 0, .slice none 0 0, .int .i64 0, .int .i64 0, .int .i64 0, .int .i64 0, .int .i64 0] 83))))
                      (try have HO := Hid.mk (HO.out.below ((Below.refl _ _).alloc (Nat.le_refl _) (.cells #[.slice none 0 0, .slice none 0 0, .int .i64 0, .int .i64 0, .int .i64 0, .int .i64 0, .int .i64 0] 83))))
                      (try have H4 := Hid.mk (H4.out.below ((Below.refl _ _).alloc (Nat.le_refl _) (.cells #[.slice none 0 0, .slice none 0 0, .int .i64 0, .int .i64 0, .int .i64 0, .int .i64 0, .int .i64 0] 83))))
                      have AM := AM'
                      (try simp only [World.size_alloc, size_drew] at AM hM)
                      refine hK.out _ _ ?_ (fun hHeld => ?_)
                      · exact ⟨cell_alloc' hHeld.1 _, cell_alloc' hHeld.2.1 _, cell_alloc' hHeld.2.2.1 _, cell_alloc' hHeld.2.2.2.1 _, cell_alloc' hHeld.2.2.2.2.1 _, cell_alloc' hHeld.2.2.2.2.2 _⟩
                      clear hK K
                      (try simp only [Act.put, List.setIfInBounds_toArray, List.set_cons_zero, List.set_cons_succ, List.getElem_toArray, List.getElem_cons_zero, List.getElem_cons_succ])
                      refine wpAnyH_ready (rs := [22]) (by kernel_rfl) (by simp) ?_
                      refine AllReadyH.cons rfl (fun K hK => ?_) ?_
                      · rw [if_pos (by rfl)]
                        have hne := Hid.mk (li_ne (x := .slice none 0 0) HO.out (by simp [startL]) AM.out (fun z => by simp))
                        refine wp_store_row _ _ _ rfl _ #[.slice (some ⟨g3, 0, none⟩) Rn c3', .slice a4 Sn c4, .int .i64 0, .int .i64 (I.V u).b, .int .i64 (-1), .int .i64 (I.nQ : Int), .int .i64 (-1)] rfl rfl _ _ AM.out infoMm rfl (by simp [Value.oneCell']) ?_
                        refine hK.out _ _ ?_ (fun hHeld => ?_)
                        · exact ⟨cell_srow hHeld.1 (by have z1 := hM.out; have z2 := hgv.out; first | omega | (have z3 := lt_drew z1; omega)), cell_srow hHeld.2.1 (by have z1 := hM.out; have z2 := hgv.out; first | omega | (have z3 := lt_drew z1; omega)), cell_srow hHeld.2.2.1 (by have z1 := hM.out; have z2 := hgv.out; first | omega | (have z3 := lt_drew z1; omega)), cell_srow hHeld.2.2.2.1 (by have z1 := hM.out; have z2 := hgv.out; first | omega | (have z3 := lt_drew z1; omega)), cell_srow hHeld.2.2.2.2.1 (by have z1 := hM.out; have z2 := hgv.out; first | omega | (have z3 := lt_drew z1; omega)), cell_srow hHeld.2.2.2.2.2 (by have z1 := hM.out; have z2 := hgv.out; first | omega | (have z3 := lt_drew z1; omega))⟩
                        clear hK K
                        (try simp only [Act.put, List.setIfInBounds_toArray, List.set_cons_zero, List.set_cons_succ, List.getElem_toArray, List.getElem_cons_zero, List.getElem_cons_succ])
                        refine wpAnyH_done (by kernel_rfl) ?_ _
                        go_wp2_with fail
                        go_meet
                        exact ⟨_, g3, c3', c4, a4, rfl, Hid.mk (by first | exact ⟨hM.out, HG3.out, HC3.out⟩ | exact ⟨lt_drew hM.out, HG3.out, HC3.out⟩), Hid.mk (srow_below HB.out (by have z1 := hM.out; have z2 := hgv.out; first | omega | (have z3 := lt_drew z1; omega)) _), Hid.mk (srow_self AM.out _), Hid.mk (srow_li HO.out hne.out _), Hid.mk (li_far H4.out N4.out _), Hid.mk ⟨F4.out, N4.out⟩, Hid.mk (srow_other A0.out (by have z1 := hM.out; have z2 := hgv.out; first | omega | (have z3 := lt_drew z1; omega)) _), Hid.mk (srow_other A1.out (by have z1 := hM.out; have z2 := hgv.out; first | omega | (have z3 := lt_drew z1; omega)) _), Hid.mk (srow_other A2.out (by have z1 := hM.out; have z2 := hgv.out; first | omega | (have z3 := lt_drew z1; omega)) _)⟩
                      exact AllReadyH.nil
                    exact AllReadyH.nil
                  refine AllReadyH.cons rfl (fun K hK => ?_) ?_
                  · go_simp
                    have hM := Hid.mk (blk_lt A2.out)
                    (try have N4 := Hid.mk (li_old H4.out))
                    have AM' := Hid.mk (blk_of HB.out (.cells #[.slice none 0 0, .slice none 0 0, .int .i64 0, .int .i64 0, .int .i64 0, .int .i64 0, .int .i64 0] 83))
                    have HB := Hid.mk (HB.out.alloc HB.out.size (.cells #[.slice none 0 0, .slice none 0 0, .int .i64 0, .int .i64 0, .int .i64 0, .int .i64 0, .int .i64 0] 83))
                    have A0 := Hid.mk (blk_alloc A0.out (.cells #[.slice none 0 0, .slice none 0 0, .int .i64 0, .int .i64 0, .int .i64 0, .int .i64 0, .int .i64 0] 83))
                    have A1 := Hid.mk (blk_alloc A1.out (.cells #[.slice none 0 0, .slice none 0 0, .int .i64 0, .int .i64 0, .int .i64 0, .int .i64 0, .int .i64 0] 83))
                    have A2 := Hid.mk (blk_alloc A2.out (.cells #[.slice none 0 0, .slice none 0 0, .int .i64 0, .int .i64 0, .int .i64 0, .int .i64 0, .int .i64 0] 83))
                    (try have HZ := Hid.mk (HZ.out.below ((Below.refl _ _).alloc (Nat.le_refl _) (.cells #[.slice none 0 0, .slice none 0 0, .int .i64 0, .int .i64 0, .int .i64 0, .int .i64 0, .int .i64 0] 83))))
                    (try have HAt := Hid.mk (HAt.out.below ((Below.refl _ _).alloc (Nat.le_refl _) (.cells #[.slice none 0 0, .slice none 0 0, .int .i64 0, .int .i64 0, .int .i64 0, .int .i64 0, .int .i64 0] 83))))
                    (try have HO := Hid.mk (HO.out.below ((Below.refl _ _).alloc (Nat.le_refl _) (.cells #[.slice none 0 0, .slice none 0 0, .int .i64 0, .int .i64 0, .int .i64 0, .int .i64 0, .int .i64 0] 83))))
                    (try have H4 := Hid.mk (H4.out.below ((Below.refl _ _).alloc (Nat.le_refl _) (.cells #[.slice none 0 0, .slice none 0 0, .int .i64 0, .int .i64 0, .int .i64 0, .int .i64 0, .int .i64 0] 83))))
                    have AM := AM'
                    (try simp only [World.size_alloc, size_drew] at AM hM)
                    refine hK.out _ _ ?_ (fun hHeld => ?_)
                    · exact ⟨cell_alloc' hHeld.1 _, cell_alloc' hHeld.2.1 _, cell_alloc' hHeld.2.2.1 _, cell_alloc' hHeld.2.2.2.1 _, cell_alloc' hHeld.2.2.2.2.1 _, cell_alloc' hHeld.2.2.2.2.2 _⟩
                    clear hK K
                    (try simp only [Act.put, List.setIfInBounds_toArray, List.set_cons_zero, List.set_cons_succ, List.getElem_toArray, List.getElem_cons_zero, List.getElem_cons_succ])
                    refine wpAnyH_ready (rs := [12]) (by kernel_rfl) (by simp) ?_
                    refine AllReadyH.cons rfl (fun K hK => ?_) ?_
                    · go_simp
                      refine (zerosS Sn _ (by omega)).mono ?_
                      rintro e we ⟨a4, c4, rfl, hl, hb, hfr, -⟩
                      (try have N4 := Hid.mk (li_new (l := zeros Sn) hfr (blk_lt AM.out)))
                      have F4 : Hid (∀ x, a4 = some x → w.heap.size + 1 + 1 < x.block) := Hid.mk fun x hx => Nat.lt_of_lt_of_le (blk_lt A2.out) (hfr x hx)
                      have HB := Hid.mk (below_then HB.out hb)
                      have A0 := Hid.mk (blk_below A0.out hb)
                      have A1 := Hid.mk (blk_below A1.out hb)
                      have A2 := Hid.mk (blk_below A2.out hb)
                      (try have HZ := Hid.mk (HZ.out.below hb))
                      (try have HAt := Hid.mk (HAt.out.below hb))
                      (try have HO := Hid.mk (HO.out.below hb))
                      (try have H4 := Hid.mk (H4.out.below hb))
                      (try have AM := Hid.mk (blk_below AM.out hb))
                      have H4 := Hid.mk hl
                      clear hl hfr
                      refine hK.out _ _ ?_ (fun hHeld => ?_)
                      · exact ⟨cell_keep hb hHeld.1, cell_keep hb hHeld.2.1, cell_keep hb hHeld.2.2.1, cell_keep hb hHeld.2.2.2.1, cell_keep hb hHeld.2.2.2.2.1, cell_keep hb hHeld.2.2.2.2.2⟩
                      clear hK K
                      (try simp only [Act.put, List.setIfInBounds_toArray, List.set_cons_zero, List.set_cons_succ, List.getElem_toArray, List.getElem_cons_zero, List.getElem_cons_succ])
                      refine wpAnyH_take (i := 20) (v := ?_) rfl (by kernel_rfl) (by kernel_rfl) (by kernel_rfl) (fun _ _ _ h => h) (Or.inl ⟨by rfl, ?_⟩) (by assumption) ?_
                      rotate_left
                      · intro w hSw; (try dsimp only at hSw); go_simp; (try with_reducible rfl)
                      rotate_left
                      simp only [Act.put, List.setIfInBounds_toArray, List.set_cons_zero, List.set_cons_succ, List.getElem_toArray, List.getElem_cons_zero, List.getElem_cons_succ]
                      refine wpAnyH_ready (rs := [22]) (by kernel_rfl) (by simp) ?_
                      refine AllReadyH.cons rfl (fun K hK => ?_) ?_
                      · rw [if_pos (by rfl)]
                        have hne := Hid.mk (li_ne (x := .slice none 0 0) HO.out (by simp [startL]) AM.out (fun z => by simp))
                        refine wp_store_row _ _ _ rfl _ #[.slice (some ⟨g3, 0, none⟩) Rn c3', .slice a4 Sn c4, .int .i64 0, .int .i64 (I.V u).b, .int .i64 (-1), .int .i64 (I.nQ : Int), .int .i64 (-1)] rfl rfl _ _ AM.out infoMm rfl (by simp [Value.oneCell']) ?_
                        refine hK.out _ _ ?_ (fun hHeld => ?_)
                        · exact ⟨cell_srow hHeld.1 (by have z1 := hM.out; have z2 := hgv.out; first | omega | (have z3 := lt_drew z1; omega)), cell_srow hHeld.2.1 (by have z1 := hM.out; have z2 := hgv.out; first | omega | (have z3 := lt_drew z1; omega)), cell_srow hHeld.2.2.1 (by have z1 := hM.out; have z2 := hgv.out; first | omega | (have z3 := lt_drew z1; omega)), cell_srow hHeld.2.2.2.1 (by have z1 := hM.out; have z2 := hgv.out; first | omega | (have z3 := lt_drew z1; omega)), cell_srow hHeld.2.2.2.2.1 (by have z1 := hM.out; have z2 := hgv.out; first | omega | (have z3 := lt_drew z1; omega)), cell_srow hHeld.2.2.2.2.2 (by have z1 := hM.out; have z2 := hgv.out; first | omega | (have z3 := lt_drew z1; omega))⟩
                        clear hK K
                        (try simp only [Act.put, List.setIfInBounds_toArray, List.set_cons_zero, List.set_cons_succ, List.getElem_toArray, List.getElem_cons_zero, List.getElem_cons_succ])
                        refine wpAnyH_done (by kernel_rfl) ?_ _
                        go_wp2_with fail
                        go_meet
                        exact ⟨_, g3, c3', c4, a4, rfl, Hid.mk (by first | exact ⟨hM.out, HG3.out, HC3.out⟩ | exact ⟨lt_drew hM.out, HG3.out, HC3.out⟩), Hid.mk (srow_below HB.out (by have z1 := hM.out; have z2 := hgv.out; first | omega | (have z3 := lt_drew z1; omega)) _), Hid.mk (srow_self AM.out _), Hid.mk (srow_li HO.out hne.out _), Hid.mk (li_far H4.out N4.out _), Hid.mk ⟨F4.out, N4.out⟩, Hid.mk (srow_other A0.out (by have z1 := hM.out; have z2 := hgv.out; first | omega | (have z3 := lt_drew z1; omega)) _), Hid.mk (srow_other A1.out (by have z1 := hM.out; have z2 := hgv.out; first | omega | (have z3 := lt_drew z1; omega)) _), Hid.mk (srow_other A2.out (by have z1 := hM.out; have z2 := hgv.out; first | omega | (have z3 := lt_drew z1; omega)) _)⟩
                      exact AllReadyH.nil
                    exact AllReadyH.nil
                  exact AllReadyH.nil
                refine AllReadyH.cons rfl (fun K hK => ?_) ?_
                · go_simp
                  have hM := Hid.mk (blk_lt A2.out)
                  (try have N4 := Hid.mk (li_old H4.out))
                  have AM' := Hid.mk (blk_of HB.out (.cells #[.slice none 0 0, .slice none 0 0, .int .i64 0, .int .i64 0, .int .i64 0, .int .i64 0, .int .i64 0] 83))
                  have HB := Hid.mk (HB.out.alloc HB.out.size (.cells #[.slice none 0 0, .slice none 0 0, .int .i64 0, .int .i64 0, .int .i64 0, .int .i64 0, .int .i64 0] 83))
                  have A0 := Hid.mk (blk_alloc A0.out (.cells #[.slice none 0 0, .slice none 0 0, .int .i64 0, .int .i64 0, .int .i64 0, .int .i64 0, .int .i64 0] 83))
                  have A1 := Hid.mk (blk_alloc A1.out (.cells #[.slice none 0 0, .slice none 0 0, .int .i64 0, .int .i64 0, .int .i64 0, .int .i64 0, .int .i64 0] 83))
                  have A2 := Hid.mk (blk_alloc A2.out (.cells #[.slice none 0 0, .slice none 0 0, .int .i64 0, .int .i64 0, .int .i64 0, .int .i64 0, .int .i64 0] 83))
                  (try have HZ := Hid.mk (HZ.out.below ((Below.refl _ _).alloc (Nat.le_refl _) (.cells #[.slice none 0 0, .slice none 0 0, .int .i64 0, .int .i64 0, .int .i64 0, .int .i64 0, .int .i64 0] 83))))
                  (try have HAt := Hid.mk (HAt.out.below ((Below.refl _ _).alloc (Nat.le_refl _) (.cells #[.slice none 0 0, .slice none 0 0, .int .i64 0, .int .i64 0, .int .i64 0, .int .i64 0, .int .i64 0] 83))))
                  (try have HO := Hid.mk (HO.out.below ((Below.refl _ _).alloc (Nat.le_refl _) (.cells #[.slice none 0 0, .slice none 0 0, .int .i64 0, .int .i64 0, .int .i64 0, .int .i64 0, .int .i64 0] 83))))
                  (try have H4 := Hid.mk (H4.out.below ((Below.refl _ _).alloc (Nat.le_refl _) (.cells #[.slice none 0 0, .slice none 0 0, .int .i64 0, .int .i64 0, .int .i64 0, .int .i64 0, .int .i64 0] 83))))
                  have AM := AM'
                  (try simp only [World.size_alloc, size_drew] at AM hM)
                  refine hK.out _ _ ?_ (fun hHeld => ?_)
                  · exact ⟨cell_alloc' hHeld.1 _, cell_alloc' hHeld.2.1 _, cell_alloc' hHeld.2.2.1 _, cell_alloc' hHeld.2.2.2.1 _, cell_alloc' hHeld.2.2.2.2.1 _, cell_alloc' hHeld.2.2.2.2.2 _⟩
                  clear hK K
                  (try simp only [Act.put, List.setIfInBounds_toArray, List.set_cons_zero, List.set_cons_succ, List.getElem_toArray, List.getElem_cons_zero, List.getElem_cons_succ])
                  refine wpAnyH_ready (rs := [7]) (by kernel_rfl) (by simp) ?_
                  refine AllReadyH.cons rfl (fun K hK => ?_) ?_
                  · go_simp
                    refine (overS az (some ⟨ga, 0, none⟩) Rn cz 13 (zeros Rn) (startL I u) _ (zeros_len _).symm rfl HZ.out HAt.out lR0 HCZ.out (by omega)).mono ?_
                    rintro e wd ⟨g3, c3', rfl, hl, hb, hg3, hc3⟩
                    have HC3 := Hid.mk hc3
                    have HG3 := Hid.mk (Nat.lt_of_lt_of_le (blk_lt A2.out) hg3)
                    have HB := Hid.mk (below_then HB.out hb)
                    have A0 := Hid.mk (blk_below A0.out hb)
                    have A1 := Hid.mk (blk_below A1.out hb)
                    have A2 := Hid.mk (blk_below A2.out hb)
                    (try have HZ := Hid.mk (HZ.out.below hb))
                    (try have HAt := Hid.mk (HAt.out.below hb))
                    (try have HO := Hid.mk (HO.out.below hb))
                    (try have H4 := Hid.mk (H4.out.below hb))
                    (try have AM := Hid.mk (blk_below AM.out hb))
                    have HO := Hid.mk hl
                    clear hl hg3
                    refine hK.out _ _ ?_ (fun hHeld => ?_)
                    · exact ⟨cell_keep hb hHeld.1, cell_keep hb hHeld.2.1, cell_keep hb hHeld.2.2.1, cell_keep hb hHeld.2.2.2.1, cell_keep hb hHeld.2.2.2.2.1, cell_keep hb hHeld.2.2.2.2.2⟩
                    clear hK K
                    (try simp only [Act.put, List.setIfInBounds_toArray, List.set_cons_zero, List.set_cons_succ, List.getElem_toArray, List.getElem_cons_zero, List.getElem_cons_succ])
                    refine wpAnyH_ready (rs := [12]) (by kernel_rfl) (by simp) ?_
                    refine AllReadyH.cons rfl (fun K hK => ?_) ?_
                    · go_simp
                      refine (zerosS Sn _ (by omega)).mono ?_
                      rintro e we ⟨a4, c4, rfl, hl, hb, hfr, -⟩
                      (try have N4 := Hid.mk (li_new (l := zeros Sn) hfr (blk_lt AM.out)))
                      have F4 : Hid (∀ x, a4 = some x → w.heap.size + 1 + 1 < x.block) := Hid.mk fun x hx => Nat.lt_of_lt_of_le (blk_lt A2.out) (hfr x hx)
                      have HB := Hid.mk (below_then HB.out hb)
                      have A0 := Hid.mk (blk_below A0.out hb)
                      have A1 := Hid.mk (blk_below A1.out hb)
                      have A2 := Hid.mk (blk_below A2.out hb)
                      (try have HZ := Hid.mk (HZ.out.below hb))
                      (try have HAt := Hid.mk (HAt.out.below hb))
                      (try have HO := Hid.mk (HO.out.below hb))
                      (try have H4 := Hid.mk (H4.out.below hb))
                      (try have AM := Hid.mk (blk_below AM.out hb))
                      have H4 := Hid.mk hl
                      clear hl hfr
                      refine hK.out _ _ ?_ (fun hHeld => ?_)
                      · exact ⟨cell_keep hb hHeld.1, cell_keep hb hHeld.2.1, cell_keep hb hHeld.2.2.1, cell_keep hb hHeld.2.2.2.1, cell_keep hb hHeld.2.2.2.2.1, cell_keep hb hHeld.2.2.2.2.2⟩
                      clear hK K
                      (try simp only [Act.put, List.setIfInBounds_toArray, List.set_cons_zero, List.set_cons_succ, List.getElem_toArray, List.getElem_cons_zero, List.getElem_cons_succ])
                      refine wpAnyH_take (i := 20) (v := ?_) rfl (by kernel_rfl) (by kernel_rfl) (by kernel_rfl) (fun _ _ _ h => h) (Or.inl ⟨by rfl, ?_⟩) (by assumption) ?_
                      rotate_left
                      · intro w hSw; (try dsimp only at hSw); go_simp; (try with_reducible rfl)
                      rotate_left
                      simp only [Act.put, List.setIfInBounds_toArray, List.set_cons_zero, List.set_cons_succ, List.getElem_toArray, List.getElem_cons_zero, List.getElem_cons_succ]
                      refine wpAnyH_ready (rs := [22]) (by kernel_rfl) (by simp) ?_
                      refine AllReadyH.cons rfl (fun K hK => ?_) ?_
                      · rw [if_pos (by rfl)]
                        have hne := Hid.mk (li_ne (x := .slice none 0 0) HO.out (by simp [startL]) AM.out (fun z => by simp))
                        refine wp_store_row _ _ _ rfl _ #[.slice (some ⟨g3, 0, none⟩) Rn c3', .slice a4 Sn c4, .int .i64 0, .int .i64 (I.V u).b, .int .i64 (-1), .int .i64 (I.nQ : Int), .int .i64 (-1)] rfl rfl _ _ AM.out infoMm rfl (by simp [Value.oneCell']) ?_
                        refine hK.out _ _ ?_ (fun hHeld => ?_)
                        · exact ⟨cell_srow hHeld.1 (by have z1 := hM.out; have z2 := hgv.out; first | omega | (have z3 := lt_drew z1; omega)), cell_srow hHeld.2.1 (by have z1 := hM.out; have z2 := hgv.out; first | omega | (have z3 := lt_drew z1; omega)), cell_srow hHeld.2.2.1 (by have z1 := hM.out; have z2 := hgv.out; first | omega | (have z3 := lt_drew z1; omega)), cell_srow hHeld.2.2.2.1 (by have z1 := hM.out; have z2 := hgv.out; first | omega | (have z3 := lt_drew z1; omega)), cell_srow hHeld.2.2.2.2.1 (by have z1 := hM.out; have z2 := hgv.out; first | omega | (have z3 := lt_drew z1; omega)), cell_srow hHeld.2.2.2.2.2 (by have z1 := hM.out; have z2 := hgv.out; first | omega | (have z3 := lt_drew z1; omega))⟩
                        clear hK K
                        (try simp only [Act.put, List.setIfInBounds_toArray, List.set_cons_zero, List.set_cons_succ, List.getElem_toArray, List.getElem_cons_zero, List.getElem_cons_succ])
                        refine wpAnyH_done (by kernel_rfl) ?_ _
                        go_wp2_with fail
                        go_meet
                        exact ⟨_, g3, c3', c4, a4, rfl, Hid.mk (by first | exact ⟨hM.out, HG3.out, HC3.out⟩ | exact ⟨lt_drew hM.out, HG3.out, HC3.out⟩), Hid.mk (srow_below HB.out (by have z1 := hM.out; have z2 := hgv.out; first | omega | (have z3 := lt_drew z1; omega)) _), Hid.mk (srow_self AM.out _), Hid.mk (srow_li HO.out hne.out _), Hid.mk (li_far H4.out N4.out _), Hid.mk ⟨F4.out, N4.out⟩, Hid.mk (srow_other A0.out (by have z1 := hM.out; have z2 := hgv.out; first | omega | (have z3 := lt_drew z1; omega)) _), Hid.mk (srow_other A1.out (by have z1 := hM.out; have z2 := hgv.out; first | omega | (have z3 := lt_drew z1; omega)) _), Hid.mk (srow_other A2.out (by have z1 := hM.out; have z2 := hgv.out; first | omega | (have z3 := lt_drew z1; omega)) _)⟩
                      exact AllReadyH.nil
                    exact AllReadyH.nil
                  exact AllReadyH.nil
                exact AllReadyH.nil
              refine AllReadyH.cons rfl (fun K hK => ?_) ?_
              · go_simp
                have hM := Hid.mk (blk_lt A2.out)
                (try have N4 := Hid.mk (li_old H4.out))
                have AM' := Hid.mk (blk_of HB.out (.cells #[.slice none 0 0, .slice none 0 0, .int .i64 0, .int .i64 0, .int .i64 0, .int .i64 0, .int .i64 0] 83))
                have HB := Hid.mk (HB.out.alloc HB.out.size (.cells #[.slice none 0 0, .slice none 0 0, .int .i64 0, .int .i64 0, .int .i64 0, .int .i64 0, .int .i64 0] 83))
                have A0 := Hid.mk (blk_alloc A0.out (.cells #[.slice none 0 0, .slice none 0 0, .int .i64 0, .int .i64 0, .int .i64 0, .int .i64 0, .int .i64 0] 83))
                have A1 := Hid.mk (blk_alloc A1.out (.cells #[.slice none 0 0, .slice none 0 0, .int .i64 0, .int .i64 0, .int .i64 0, .int .i64 0, .int .i64 0] 83))
                have A2 := Hid.mk (blk_alloc A2.out (.cells #[.slice none 0 0, .slice none 0 0, .int .i64 0, .int .i64 0, .int .i64 0, .int .i64 0, .int .i64 0] 83))
                (try have HZ := Hid.mk (HZ.out.below ((Below.refl _ _).alloc (Nat.le_refl _) (.cells #[.slice none 0 0, .slice none 0 0, .int .i64 0, .int .i64 0, .int .i64 0, .int .i64 0, .int .i64 0] 83))))
                (try have HAt := Hid.mk (HAt.out.below ((Below.refl _ _).alloc (Nat.le_refl _) (.cells #[.slice none 0 0, .slice none 0 0, .int .i64 0, .int .i64 0, .int .i64 0, .int .i64 0, .int .i64 0] 83))))
                (try have HO := Hid.mk (HO.out.below ((Below.refl _ _).alloc (Nat.le_refl _) (.cells #[.slice none 0 0, .slice none 0 0, .int .i64 0, .int .i64 0, .int .i64 0, .int .i64 0, .int .i64 0] 83))))
                (try have H4 := Hid.mk (H4.out.below ((Below.refl _ _).alloc (Nat.le_refl _) (.cells #[.slice none 0 0, .slice none 0 0, .int .i64 0, .int .i64 0, .int .i64 0, .int .i64 0, .int .i64 0] 83))))
                have AM := AM'
                (try simp only [World.size_alloc, size_drew] at AM hM)
                refine hK.out _ _ ?_ (fun hHeld => ?_)
                · exact ⟨cell_alloc' hHeld.1 _, cell_alloc' hHeld.2.1 _, cell_alloc' hHeld.2.2.1 _, cell_alloc' hHeld.2.2.2.1 _, cell_alloc' hHeld.2.2.2.2.1 _, cell_alloc' hHeld.2.2.2.2.2 _⟩
                clear hK K
                (try simp only [Act.put, List.setIfInBounds_toArray, List.set_cons_zero, List.set_cons_succ, List.getElem_toArray, List.getElem_cons_zero, List.getElem_cons_succ])
                refine wpAnyH_ready (rs := [6]) (by kernel_rfl) (by simp) ?_
                refine AllReadyH.cons rfl (fun K hK => ?_) ?_
                · go_simp
                  refine (attrsS (some ⟨gv, ov, none⟩) b2 b3 d1 d2 d3 I u _ _ (HI.out.below HB.out) hu q1 q2 ob.out).mono ?_
                  rintro e wb ⟨ga, rfl, hl, hb, hga⟩
                  have HB := Hid.mk (below_then HB.out hb)
                  have A0 := Hid.mk (blk_below A0.out hb)
                  have A1 := Hid.mk (blk_below A1.out hb)
                  have A2 := Hid.mk (blk_below A2.out hb)
                  (try have HZ := Hid.mk (HZ.out.below hb))
                  (try have HAt := Hid.mk (HAt.out.below hb))
                  (try have HO := Hid.mk (HO.out.below hb))
                  (try have H4 := Hid.mk (H4.out.below hb))
                  (try have AM := Hid.mk (blk_below AM.out hb))
                  have HAt := Hid.mk hl
                  clear hl hga
                  refine hK.out _ _ ?_ (fun hHeld => ?_)
                  · exact ⟨cell_keep hb hHeld.1, cell_keep hb hHeld.2.1, cell_keep hb hHeld.2.2.1, cell_keep hb hHeld.2.2.2.1, cell_keep hb hHeld.2.2.2.2.1, cell_keep hb hHeld.2.2.2.2.2⟩
                  clear hK K
                  (try simp only [Act.put, List.setIfInBounds_toArray, List.set_cons_zero, List.set_cons_succ, List.getElem_toArray, List.getElem_cons_zero, List.getElem_cons_succ])
                  refine wpAnyH_ready (rs := [7]) (by kernel_rfl) (by simp) ?_
                  refine AllReadyH.cons rfl (fun K hK => ?_) ?_
                  · go_simp
                    refine (overS az (some ⟨ga, 0, none⟩) Rn cz 13 (zeros Rn) (startL I u) _ (zeros_len _).symm rfl HZ.out HAt.out lR0 HCZ.out (by omega)).mono ?_
                    rintro e wd ⟨g3, c3', rfl, hl, hb, hg3, hc3⟩
                    have HC3 := Hid.mk hc3
                    have HG3 := Hid.mk (Nat.lt_of_lt_of_le (blk_lt A2.out) hg3)
                    have HB := Hid.mk (below_then HB.out hb)
                    have A0 := Hid.mk (blk_below A0.out hb)
                    have A1 := Hid.mk (blk_below A1.out hb)
                    have A2 := Hid.mk (blk_below A2.out hb)
                    (try have HZ := Hid.mk (HZ.out.below hb))
                    (try have HAt := Hid.mk (HAt.out.below hb))
                    (try have HO := Hid.mk (HO.out.below hb))
                    (try have H4 := Hid.mk (H4.out.below hb))
                    (try have AM := Hid.mk (blk_below AM.out hb))
                    have HO := Hid.mk hl
                    clear hl hg3
                    refine hK.out _ _ ?_ (fun hHeld => ?_)
                    · exact ⟨cell_keep hb hHeld.1, cell_keep hb hHeld.2.1, cell_keep hb hHeld.2.2.1, cell_keep hb hHeld.2.2.2.1, cell_keep hb hHeld.2.2.2.2.1, cell_keep hb hHeld.2.2.2.2.2⟩
                    clear hK K
                    (try simp only [Act.put, List.setIfInBounds_toArray, List.set_cons_zero, List.set_cons_succ, List.getElem_toArray, List.getElem_cons_zero, List.getElem_cons_succ])
                    refine wpAnyH_ready (rs := [12]) (by kernel_rfl) (by simp) ?_
                    refine AllReadyH.cons rfl (fun K hK => ?_) ?_
                    · go_simp
                      refine (zerosS Sn _ (by omega)).mono ?_
                      rintro e we ⟨a4, c4, rfl, hl, hb, hfr, -⟩
                      (try have N4 := Hid.mk (li_new (l := zeros Sn) hfr (blk_lt AM.out)))
                      have F4 : Hid (∀ x, a4 = some x → w.heap.size + 1 + 1 < x.block) := Hid.mk fun x hx => Nat.lt_of_lt_of_le (blk_lt A2.out) (hfr x hx)
                      have HB := Hid.mk (below_then HB.out hb)
                      have A0 := Hid.mk (blk_below A0.out hb)
                      have A1 := Hid.mk (blk_below A1.out hb)
                      have A2 := Hid.mk (blk_below A2.out hb)
                      (try have HZ := Hid.mk (HZ.out.below hb))
                      (try have HAt := Hid.mk (HAt.out.below hb))
                      (try have HO := Hid.mk (HO.out.below hb))
                      (try have H4 := Hid.mk (H4.out.below hb))
                      (try have AM := Hid.mk (blk_below AM.out hb))
                      have H4 := Hid.mk hl
                      clear hl hfr
                      refine hK.out _ _ ?_ (fun hHeld => ?_)
                      · exact ⟨cell_keep hb hHeld.1, cell_keep hb hHeld.2.1, cell_keep hb hHeld.2.2.1, cell_keep hb hHeld.2.2.2.1, cell_keep hb hHeld.2.2.2.2.1, cell_keep hb hHeld.2.2.2.2.2⟩
                      clear hK K
                      (try simp only [Act.put, List.setIfInBounds_toArray, List.set_cons_zero, List.set_cons_succ, List.getElem_toArray, List.getElem_cons_zero, List.getElem_cons_succ])
                      refine wpAnyH_take (i := 20) (v := ?_) rfl (by kernel_rfl) (by kernel_rfl) (by kernel_rfl) (fun _ _ _ h => h) (Or.inl ⟨by rfl, ?_⟩) (by assumption) ?_
                      rotate_left
                      · intro w hSw; (try dsimp only at hSw); go_simp; (try with_reducible rfl)
                      rotate_left
                      simp only [Act.put, List.setIfInBounds_toArray, List.set_cons_zero, List.set_cons_succ, List.getElem_toArray, List.getElem_cons_zero, List.getElem_cons_succ]
                      refine wpAnyH_ready (rs := [22]) (by kernel_rfl) (by simp) ?_
                      refine AllReadyH.cons rfl (fun K hK => ?_) ?_
                      · rw [if_pos (by rfl)]
                        have hne := Hid.mk (li_ne (x := .slice none 0 0) HO.out (by simp [startL]) AM.out (fun z => by simp))
                        refine wp_store_row _ _ _ rfl _ #[.slice (some ⟨g3, 0, none⟩) Rn c3', .slice a4 Sn c4, .int .i64 0, .int .i64 (I.V u).b, .int .i64 (-1), .int .i64 (I.nQ : Int), .int .i64 (-1)] rfl rfl _ _ AM.out infoMm rfl (by simp [Value.oneCell']) ?_
                        refine hK.out _ _ ?_ (fun hHeld => ?_)
                        · exact ⟨cell_srow hHeld.1 (by have z1 := hM.out; have z2 := hgv.out; first | omega | (have z3 := lt_drew z1; omega)), cell_srow hHeld.2.1 (by have z1 := hM.out; have z2 := hgv.out; first | omega | (have z3 := lt_drew z1; omega)), cell_srow hHeld.2.2.1 (by have z1 := hM.out; have z2 := hgv.out; first | omega | (have z3 := lt_drew z1; omega)), cell_srow hHeld.2.2.2.1 (by have z1 := hM.out; have z2 := hgv.out; first | omega | (have z3 := lt_drew z1; omega)), cell_srow hHeld.2.2.2.2.1 (by have z1 := hM.out; have z2 := hgv.out; first | omega | (have z3 := lt_drew z1; omega)), cell_srow hHeld.2.2.2.2.2 (by have z1 := hM.out; have z2 := hgv.out; first | omega | (have z3 := lt_drew z1; omega))⟩
                        clear hK K
                        (try simp only [Act.put, List.setIfInBounds_toArray, List.set_cons_zero, List.set_cons_succ, List.getElem_toArray, List.getElem_cons_zero, List.getElem_cons_succ])
                        refine wpAnyH_done (by kernel_rfl) ?_ _
                        go_wp2_with fail
                        go_meet
                        exact ⟨_, g3, c3', c4, a4, rfl, Hid.mk (by first | exact ⟨hM.out, HG3.out, HC3.out⟩ | exact ⟨lt_drew hM.out, HG3.out, HC3.out⟩), Hid.mk (srow_below HB.out (by have z1 := hM.out; have z2 := hgv.out; first | omega | (have z3 := lt_drew z1; omega)) _), Hid.mk (srow_self AM.out _), Hid.mk (srow_li HO.out hne.out _), Hid.mk (li_far H4.out N4.out _), Hid.mk ⟨F4.out, N4.out⟩, Hid.mk (srow_other A0.out (by have z1 := hM.out; have z2 := hgv.out; first | omega | (have z3 := lt_drew z1; omega)) _), Hid.mk (srow_other A1.out (by have z1 := hM.out; have z2 := hgv.out; first | omega | (have z3 := lt_drew z1; omega)) _), Hid.mk (srow_other A2.out (by have z1 := hM.out; have z2 := hgv.out; first | omega | (have z3 := lt_drew z1; omega)) _)⟩
                      exact AllReadyH.nil
                    exact AllReadyH.nil
                  exact AllReadyH.nil
                exact AllReadyH.nil
              exact AllReadyH.nil
            refine AllReadyH.cons rfl (fun K hK => ?_) ?_
            · go_simp
              have hM := Hid.mk (blk_lt A2.out)
              (try have N4 := Hid.mk (li_old H4.out))
              have AM' := Hid.mk (blk_of HB.out (.cells #[.slice none 0 0, .slice none 0 0, .int .i64 0, .int .i64 0, .int .i64 0, .int .i64 0, .int .i64 0] 83))
              have HB := Hid.mk (HB.out.alloc HB.out.size (.cells #[.slice none 0 0, .slice none 0 0, .int .i64 0, .int .i64 0, .int .i64 0, .int .i64 0, .int .i64 0] 83))
              have A0 := Hid.mk (blk_alloc A0.out (.cells #[.slice none 0 0, .slice none 0 0, .int .i64 0, .int .i64 0, .int .i64 0, .int .i64 0, .int .i64 0] 83))
              have A1 := Hid.mk (blk_alloc A1.out (.cells #[.slice none 0 0, .slice none 0 0, .int .i64 0, .int .i64 0, .int .i64 0, .int .i64 0, .int .i64 0] 83))
              have A2 := Hid.mk (blk_alloc A2.out (.cells #[.slice none 0 0, .slice none 0 0, .int .i64 0, .int .i64 0, .int .i64 0, .int .i64 0, .int .i64 0] 83))
              (try have HZ := Hid.mk (HZ.out.below ((Below.refl _ _).alloc (Nat.le_refl _) (.cells #[.slice none 0 0, .slice none 0 0, .int .i64 0, .int .i64 0, .int .i64 0, .int .i64 0, .int .i64 0] 83))))
              (try have HAt := Hid.mk (HAt.out.below ((Below.refl _ _).alloc (Nat.le_refl _) (.cells #[.slice none 0 0, .slice none 0 0, .int .i64 0, .int .i64 0, .int .i64 0, .int .i64 0, .int .i64 0] 83))))
              (try have HO := Hid.mk (HO.out.below ((Below.refl _ _).alloc (Nat.le_refl _) (.cells #[.slice none 0 0, .slice none 0 0, .int .i64 0, .int .i64 0, .int .i64 0, .int .i64 0, .int .i64 0] 83))))
              (try have H4 := Hid.mk (H4.out.below ((Below.refl _ _).alloc (Nat.le_refl _) (.cells #[.slice none 0 0, .slice none 0 0, .int .i64 0, .int .i64 0, .int .i64 0, .int .i64 0, .int .i64 0] 83))))
              have AM := AM'
              (try simp only [World.size_alloc, size_drew] at AM hM)
              refine hK.out _ _ ?_ (fun hHeld => ?_)
              · exact ⟨cell_alloc' hHeld.1 _, cell_alloc' hHeld.2.1 _, cell_alloc' hHeld.2.2.1 _, cell_alloc' hHeld.2.2.2.1 _, cell_alloc' hHeld.2.2.2.2.1 _, cell_alloc' hHeld.2.2.2.2.2 _⟩
              clear hK K
              (try simp only [Act.put, List.setIfInBounds_toArray, List.set_cons_zero, List.set_cons_succ, List.getElem_toArray, List.getElem_cons_zero, List.getElem_cons_succ])
              refine wpAnyH_ready (rs := [2]) (by kernel_rfl) (by simp) ?_
              refine AllReadyH.cons rfl (fun K hK => ?_) ?_
              · go_simp
                refine (zerosS Rn _ (by omega)).mono ?_
                rintro e wa ⟨az, cz, rfl, hl, hb, hfr, hcz⟩
                have HB := Hid.mk (below_then HB.out hb)
                have A0 := Hid.mk (blk_below A0.out hb)
                have A1 := Hid.mk (blk_below A1.out hb)
                have A2 := Hid.mk (blk_below A2.out hb)
                (try have HZ := Hid.mk (HZ.out.below hb))
                (try have HAt := Hid.mk (HAt.out.below hb))
                (try have HO := Hid.mk (HO.out.below hb))
                (try have H4 := Hid.mk (H4.out.below hb))
                (try have AM := Hid.mk (blk_below AM.out hb))
                have HZ := Hid.mk hl
                have HCZ := Hid.mk hcz
                clear hl hcz hfr
                refine hK.out _ _ ?_ (fun hHeld => ?_)
                · exact ⟨cell_keep hb hHeld.1, cell_keep hb hHeld.2.1, cell_keep hb hHeld.2.2.1, cell_keep hb hHeld.2.2.2.1, cell_keep hb hHeld.2.2.2.2.1, cell_keep hb hHeld.2.2.2.2.2⟩
                clear hK K
                (try simp only [Act.put, List.setIfInBounds_toArray, List.set_cons_zero, List.set_cons_succ, List.getElem_toArray, List.getElem_cons_zero, List.getElem_cons_succ])
                refine wpAnyH_ready (rs := [6]) (by kernel_rfl) (by simp) ?_
                refine AllReadyH.cons rfl (fun K hK => ?_) ?_
                · go_simp
                  refine (attrsS (some ⟨gv, ov, none⟩) b2 b3 d1 d2 d3 I u _ _ (HI.out.below HB.out) hu q1 q2 ob.out).mono ?_
                  rintro e wb ⟨ga, rfl, hl, hb, hga⟩
                  have HB := Hid.mk (below_then HB.out hb)
                  have A0 := Hid.mk (blk_below A0.out hb)
                  have A1 := Hid.mk (blk_below A1.out hb)
                  have A2 := Hid.mk (blk_below A2.out hb)
                  (try have HZ := Hid.mk (HZ.out.below hb))
                  (try have HAt := Hid.mk (HAt.out.below hb))
                  (try have HO := Hid.mk (HO.out.below hb))
                  (try have H4 := Hid.mk (H4.out.below hb))
                  (try have AM := Hid.mk (blk_below AM.out hb))
                  have HAt := Hid.mk hl
                  clear hl hga
                  refine hK.out _ _ ?_ (fun hHeld => ?_)
                  · exact ⟨cell_keep hb hHeld.1, cell_keep hb hHeld.2.1, cell_keep hb hHeld.2.2.1, cell_keep hb hHeld.2.2.2.1, cell_keep hb hHeld.2.2.2.2.1, cell_keep hb hHeld.2.2.2.2.2⟩
                  clear hK K
                  (try simp only [Act.put, List.setIfInBounds_toArray, List.set_cons_zero, List.set_cons_succ, List.getElem_toArray, List.getElem_cons_zero, List.getElem_cons_succ])
                  refine wpAnyH_ready (rs := [7]) (by kernel_rfl) (by simp) ?_
                  refine AllReadyH.cons rfl (fun K hK => ?_) ?_
                  · go_simp
                    refine (overS az (some ⟨ga, 0, none⟩) Rn cz 13 (zeros Rn) (startL I u) _ (zeros_len _).symm rfl HZ.out HAt.out lR0 HCZ.out (by omega)).mono ?_
                    rintro e wd ⟨g3, c3', rfl, hl, hb, hg3, hc3⟩
                    have HC3 := Hid.mk hc3
                    have HG3 := Hid.mk (Nat.lt_of_lt_of_le (blk_lt A2.out) hg3)
                    have HB := Hid.mk (below_then HB.out hb)
                    have A0 := Hid.mk (blk_below A0.out hb)
                    have A1 := Hid.mk (blk_below A1.out hb)
                    have A2 := Hid.mk (blk_below A2.out hb)
                    (try have HZ := Hid.mk (HZ.out.below hb))
                    (try have HAt := Hid.mk (HAt.out.below hb))
                    (try have HO := Hid.mk (HO.out.below hb))
                    (try have H4 := Hid.mk (H4.out.below hb))
                    (try have AM := Hid.mk (blk_below AM.out hb))
                    have HO := Hid.mk hl
                    clear hl hg3
                    refine hK.out _ _ ?_ (fun hHeld => ?_)
                    · exact ⟨cell_keep hb hHeld.1, cell_keep hb hHeld.2.1, cell_keep hb hHeld.2.2.1, cell_keep hb hHeld.2.2.2.1, cell_keep hb hHeld.2.2.2.2.1, cell_keep hb hHeld.2.2.2.2.2⟩
                    clear hK K
                    (try simp only [Act.put, List.setIfInBounds_toArray, List.set_cons_zero, List.set_cons_succ, List.getElem_toArray, List.getElem_cons_zero, List.getElem_cons_succ])
                    refine wpAnyH_ready (rs := [12]) (by kernel_rfl) (by simp) ?_
                    refine AllReadyH.cons rfl (fun K hK => ?_) ?_
                    · go_simp
                      refine (zerosS Sn _ (by omega)).mono ?_
                      rintro e we ⟨a4, c4, rfl, hl, hb, hfr, -⟩
                      (try have N4 := Hid.mk (li_new (l := zeros Sn) hfr (blk_lt AM.out)))
                      have F4 : Hid (∀ x, a4 = some x → w.heap.size + 1 + 1 < x.block) := Hid.mk fun x hx => Nat.lt_of_lt_of_le (blk_lt A2.out) (hfr x hx)
                      have HB := Hid.mk (below_then HB.out hb)
                      have A0 := Hid.mk (blk_below A0.out hb)
                      have A1 := Hid.mk (blk_below A1.out hb)
                      have A2 := Hid.mk (blk_below A2.out hb)
                      (try have HZ := Hid.mk (HZ.out.below hb))
                      (try have HAt := Hid.mk (HAt.out.below hb))
                      (try have HO := Hid.mk (HO.out.below hb))
                      (try have H4 := Hid.mk (H4.out.below hb))
                      (try have AM := Hid.mk (blk_below AM.out hb))
                      have H4 := Hid.mk hl
                      clear hl hfr
                      refine hK.out _ _ ?_ (fun hHeld => ?_)
                      · exact ⟨cell_keep hb hHeld.1, cell_keep hb hHeld.2.1, cell_keep hb hHeld.2.2.1, cell_keep hb hHeld.2.2.2.1, cell_keep hb hHeld.2.2.2.2.1, cell_keep hb hHeld.2.2.2.2.2⟩
                      clear hK K
                      (try simp only [Act.put, List.setIfInBounds_toArray, List.set_cons_zero, List.set_cons_succ, List.getElem_toArray, List.getElem_cons_zero, List.getElem_cons_succ])
                      refine wpAnyH_take (i := 20) (v := ?_) rfl (by kernel_rfl) (by kernel_rfl) (by kernel_rfl) (fun _ _ _ h => h) (Or.inl ⟨by rfl, ?_⟩) (by assumption) ?_
                      rotate_left
                      · intro w hSw; (try dsimp only at hSw); go_simp; (try with_reducible rfl)
                      rotate_left
                      simp only [Act.put, List.setIfInBounds_toArray, List.set_cons_zero, List.set_cons_succ, List.getElem_toArray, List.getElem_cons_zero, List.getElem_cons_succ]
                      refine wpAnyH_ready (rs := [22]) (by kernel_rfl) (by simp) ?_
                      refine AllReadyH.cons rfl (fun K hK => ?_) ?_
                      · rw [if_pos (by rfl)]
                        have hne := Hid.mk (li_ne (x := .slice none 0 0) HO.out (by simp [startL]) AM.out (fun z => by simp))
                        refine wp_store_row _ _ _ rfl _ #[.slice (some ⟨g3, 0, none⟩) Rn c3', .slice a4 Sn c4, .int .i64 0, .int .i64 (I.V u).b, .int .i64 (-1), .int .i64 (I.nQ : Int), .int .i64 (-1)] rfl rfl _ _ AM.out infoMm rfl (by simp [Value.oneCell']) ?_
                        refine hK.out _ _ ?_ (fun hHeld => ?_)
                        · exact ⟨cell_srow hHeld.1 (by have z1 := hM.out; have z2 := hgv.out; first | omega | (have z3 := lt_drew z1; omega)), cell_srow hHeld.2.1 (by have z1 := hM.out; have z2 := hgv.out; first | omega | (have z3 := lt_drew z1; omega)), cell_srow hHeld.2.2.1 (by have z1 := hM.out; have z2 := hgv.out; first | omega | (have z3 := lt_drew z1; omega)), cell_srow hHeld.2.2.2.1 (by have z1 := hM.out; have z2 := hgv.out; first | omega | (have z3 := lt_drew z1; omega)), cell_srow hHeld.2.2.2.2.1 (by have z1 := hM.out; have z2 := hgv.out; first | omega | (have z3 := lt_drew z1; omega)), cell_srow hHeld.2.2.2.2.2 (by have z1 := hM.out; have z2 := hgv.out; first | omega | (have z3 := lt_drew z1; omega))⟩
                        clear hK K
                        (try simp only [Act.put, List.setIfInBounds_toArray, List.set_cons_zero, List.set_cons_succ, List.getElem_toArray, List.getElem_cons_zero, List.getElem_cons_succ])
                        refine wpAnyH_done (by kernel_rfl) ?_ _
                        go_wp2_with fail
                        go_meet
                        exact ⟨_, g3, c3', c4, a4, rfl, Hid.mk (by first | exact ⟨hM.out, HG3.out, HC3.out⟩ | exact ⟨lt_drew hM.out, HG3.out, HC3.out⟩), Hid.mk (srow_below HB.out (by have z1 := hM.out; have z2 := hgv.out; first | omega | (have z3 := lt_drew z1; omega)) _), Hid.mk (srow_self AM.out _), Hid.mk (srow_li HO.out hne.out _), Hid.mk (li_far H4.out N4.out _), Hid.mk ⟨F4.out, N4.out⟩, Hid.mk (srow_other A0.out (by have z1 := hM.out; have z2 := hgv.out; first | omega | (have z3 := lt_drew z1; omega)) _), Hid.mk (srow_other A1.out (by have z1 := hM.out; have z2 := hgv.out; first | omega | (have z3 := lt_drew z1; omega)) _), Hid.mk (srow_other A2.out (by have z1 := hM.out; have z2 := hgv.out; first | omega | (have z3 := lt_drew z1; omega)) _)⟩
                      exact AllReadyH.nil
                    exact AllReadyH.nil
                  exact AllReadyH.nil
                exact AllReadyH.nil
              exact AllReadyH.nil
            exact AllReadyH.nil
          refine AllReadyH.cons rfl (fun K hK => ?_) ?_
          · go_simp
            have hM := Hid.mk (blk_lt A2.out)
            (try have N4 := Hid.mk (li_old H4.out))
            have AM' := Hid.mk (blk_of HB.out (.cells #[.slice none 0 0, .slice none 0 0, .int .i64 0, .int .i64 0, .int .i64 0, .int .i64 0, .int .i64 0] 83))
            have HB := Hid.mk (HB.out.alloc HB.out.size (.cells #[.slice none 0 0, .slice none 0 0, .int .i64 0, .int .i64 0, .int .i64 0, .int .i64 0, .int .i64 0] 83))
            have A0 := Hid.mk (blk_alloc A0.out (.cells #[.slice none 0 0, .slice none 0 0, .int .i64 0, .int .i64 0, .int .i64 0, .int .i64 0, .int .i64 0] 83))
            have A1 := Hid.mk (blk_alloc A1.out (.cells #[.slice none 0 0, .slice none 0 0, .int .i64 0, .int .i64 0, .int .i64 0, .int .i64 0, .int .i64 0] 83))
            have A2 := Hid.mk (blk_alloc A2.out (.cells #[.slice none 0 0, .slice none 0 0, .int .i64 0, .int .i64 0, .int .i64 0, .int .i64 0, .int .i64 0] 83))
            (try have HZ := Hid.mk (HZ.out.below ((Below.refl _ _).alloc (Nat.le_refl _) (.cells #[.slice none 0 0, .slice none 0 0, .int .i64 0, .int .i64 0, .int .i64 0, .int .i64 0, .int .i64 0] 83))))
            (try have HAt := Hid.mk (HAt.out.below ((Below.refl _ _).alloc (Nat.le_refl _) (.cells #[.slice none 0 0, .slice none 0 0, .int .i64 0, .int .i64 0, .int .i64 0, .int .i64 0, .int .i64 0] 83))))
            (try have HO := Hid.mk (HO.out.below ((Below.refl _ _).alloc (Nat.le_refl _) (.cells #[.slice none 0 0, .slice none 0 0, .int .i64 0, .int .i64 0, .int .i64 0, .int .i64 0, .int .i64 0] 83))))
            (try have H4 := Hid.mk (H4.out.below ((Below.refl _ _).alloc (Nat.le_refl _) (.cells #[.slice none 0 0, .slice none 0 0, .int .i64 0, .int .i64 0, .int .i64 0, .int .i64 0, .int .i64 0] 83))))
            have AM := AM'
            (try simp only [World.size_alloc, size_drew] at AM hM)
            refine hK.out _ _ ?_ (fun hHeld => ?_)
            · exact ⟨cell_alloc' hHeld.1 _, cell_alloc' hHeld.2.1 _, cell_alloc' hHeld.2.2.1 _, cell_alloc' hHeld.2.2.2.1 _, cell_alloc' hHeld.2.2.2.2.1 _, cell_alloc' hHeld.2.2.2.2.2 _⟩
            clear hK K
            (try simp only [Act.put, List.setIfInBounds_toArray, List.set_cons_zero, List.set_cons_succ, List.getElem_toArray, List.getElem_cons_zero, List.getElem_cons_succ])
            refine wpAnyH_ready (rs := [2, 5]) (by kernel_rfl) (by simp) ?_
            refine AllReadyH.cons rfl (fun K hK => ?_) ?_
            · go_simp
              refine (zerosS Rn _ (by omega)).mono ?_
              rintro e wa ⟨az, cz, rfl, hl, hb, hfr, hcz⟩
              have HB := Hid.mk (below_then HB.out hb)
              have A0 := Hid.mk (blk_below A0.out hb)
              have A1 := Hid.mk (blk_below A1.out hb)
              have A2 := Hid.mk (blk_below A2.out hb)
              (try have HZ := Hid.mk (HZ.out.below hb))
              (try have HAt := Hid.mk (HAt.out.below hb))
              (try have HO := Hid.mk (HO.out.below hb))
              (try have H4 := Hid.mk (H4.out.below hb))
              (try have AM := Hid.mk (blk_below AM.out hb))
              have HZ := Hid.mk hl
              have HCZ := Hid.mk hcz
              clear hl hcz hfr
              refine hK.out _ _ ?_ (fun hHeld => ?_)
              · exact ⟨cell_keep hb hHeld.1, cell_keep hb hHeld.2.1, cell_keep hb hHeld.2.2.1, cell_keep hb hHeld.2.2.2.1, cell_keep hb hHeld.2.2.2.2.1, cell_keep hb hHeld.2.2.2.2.2⟩
              clear hK K
              (try simp only [Act.put, List.setIfInBounds_toArray, List.set_cons_zero, List.set_cons_succ, List.getElem_toArray, List.getElem_cons_zero, List.getElem_cons_succ])
              refine wpAnyH_ready (rs := [5]) (by kernel_rfl) (by simp) ?_
              refine AllReadyH.cons rfl (fun K hK => ?_) ?_
              · go_simp
                have HB := Hid.mk (HB.out.alloc HB.out.size (.cells #[] 2))
                have A0 := Hid.mk (blk_alloc A0.out (.cells #[] 2))
                have A1 := Hid.mk (blk_alloc A1.out (.cells #[] 2))
                have A2 := Hid.mk (blk_alloc A2.out (.cells #[] 2))
                (try have HZ := Hid.mk (HZ.out.below ((Below.refl _ _).alloc (Nat.le_refl _) (.cells #[] 2))))
                (try have HAt := Hid.mk (HAt.out.below ((Below.refl _ _).alloc (Nat.le_refl _) (.cells #[] 2))))
                (try have HO := Hid.mk (HO.out.below ((Below.refl _ _).alloc (Nat.le_refl _) (.cells #[] 2))))
                (try have H4 := Hid.mk (H4.out.below ((Below.refl _ _).alloc (Nat.le_refl _) (.cells #[] 2))))
                (try have AM := Hid.mk (blk_alloc AM.out (.cells #[] 2)))
                refine hK.out _ _ ?_ (fun hHeld => ?_)
                · exact ⟨cell_alloc' hHeld.1 _, cell_alloc' hHeld.2.1 _, cell_alloc' hHeld.2.2.1 _, cell_alloc' hHeld.2.2.2.1 _, cell_alloc' hHeld.2.2.2.2.1 _, cell_alloc' hHeld.2.2.2.2.2 _⟩
                clear hK K
                (try simp only [Act.put, List.setIfInBounds_toArray, List.set_cons_zero, List.set_cons_succ, List.getElem_toArray, List.getElem_cons_zero, List.getElem_cons_succ])
                refine wpAnyH_ready (rs := [6]) (by kernel_rfl) (by simp) ?_
                refine AllReadyH.cons rfl (fun K hK => ?_) ?_
                · go_simp
                  refine (attrsS (some ⟨gv, ov, none⟩) b2 b3 d1 d2 d3 I u _ _ (HI.out.below HB.out) hu q1 q2 ob.out).mono ?_
                  rintro e wb ⟨ga, rfl, hl, hb, hga⟩
                  have HB := Hid.mk (below_then HB.out hb)
                  have A0 := Hid.mk (blk_below A0.out hb)
                  have A1 := Hid.mk (blk_below A1.out hb)
                  have A2 := Hid.mk (blk_below A2.out hb)
                  (try have HZ := Hid.mk (HZ.out.below hb))
                  (try have HAt := Hid.mk (HAt.out.below hb))
                  (try have HO := Hid.mk (HO.out.below hb))
                  (try have H4 := Hid.mk (H4.out.below hb))
                  (try have AM := Hid.mk (blk_below AM.out hb))
                  have HAt := Hid.mk hl
                  clear hl hga
                  refine hK.out _ _ ?_ (fun hHeld => ?_)
                  · exact ⟨cell_keep hb hHeld.1, cell_keep hb hHeld.2.1, cell_keep hb hHeld.2.2.1, cell_keep hb hHeld.2.2.2.1, cell_keep hb hHeld.2.2.2.2.1, cell_keep hb hHeld.2.2.2.2.2⟩
                  clear hK K
                  (try simp only [Act.put, List.setIfInBounds_toArray, List.set_cons_zero, List.set_cons_succ, List.getElem_toArray, List.getElem_cons_zero, List.getElem_cons_succ])
                  refine wpAnyH_ready (rs := [7]) (by kernel_rfl) (by simp) ?_
                  refine AllReadyH.cons rfl (fun K hK => ?_) ?_
                  · go_simp
                    refine (overS az (some ⟨ga, 0, none⟩) Rn cz 13 (zeros Rn) (startL I u) _ (zeros_len _).symm rfl HZ.out HAt.out lR0 HCZ.out (by omega)).mono ?_
                    rintro e wd ⟨g3, c3', rfl, hl, hb, hg3, hc3⟩
                    have HC3 := Hid.mk hc3
                    have HG3 := Hid.mk (Nat.lt_of_lt_of_le (blk_lt A2.out) hg3)
                    have HB := Hid.mk (below_then HB.out hb)
                    have A0 := Hid.mk (blk_below A0.out hb)
                    have A1 := Hid.mk (blk_below A1.out hb)
                    have A2 := Hid.mk (blk_below A2.out hb)
                    (try have HZ := Hid.mk (HZ.out.below hb))
                    (try have HAt := Hid.mk (HAt.out.below hb))
                    (try have HO := Hid.mk (HO.out.below hb))
                    (try have H4 := Hid.mk (H4.out.below hb))
                    (try have AM := Hid.mk (blk_below AM.out hb))
                    have HO := Hid.mk hl
                    clear hl hg3
                    refine hK.out _ _ ?_ (fun hHeld => ?_)
                    · exact ⟨cell_keep hb hHeld.1, cell_keep hb hHeld.2.1, cell_keep hb hHeld.2.2.1, cell_keep hb hHeld.2.2.2.1, cell_keep hb hHeld.2.2.2.2.1, cell_keep hb hHeld.2.2.2.2.2⟩
                    clear hK K
                    (try simp only [Act.put, List.setIfInBounds_toArray, List.set_cons_zero, List.set_cons_succ, List.getElem_toArray, List.getElem_cons_zero, List.getElem_cons_succ])
                    refine wpAnyH_ready (rs := [12]) (by kernel_rfl) (by simp) ?_
                    refine AllReadyH.cons rfl (fun K hK => ?_) ?_
                    · go_simp
                      refine (zerosS Sn _ (by omega)).mono ?_
                      rintro e we ⟨a4, c4, rfl, hl, hb, hfr, -⟩
                      (try have N4 := Hid.mk (li_new (l := zeros Sn) hfr (blk_lt AM.out)))
                      have F4 : Hid (∀ x, a4 = some x → w.heap.size + 1 + 1 < x.block) := Hid.mk fun x hx => Nat.lt_of_lt_of_le (blk_lt A2.out) (hfr x hx)
                      have HB := Hid.mk (below_then HB.out hb)
                      have A0 := Hid.mk (blk_below A0.out hb)
                      have A1 := Hid.mk (blk_below A1.out hb)
                      have A2 := Hid.mk (blk_below A2.out hb)
                      (try have HZ := Hid.mk (HZ.out.below hb))
                      (try have HAt := Hid.mk (HAt.out.below hb))
                      (try have HO := Hid.mk (HO.out.below hb))
                      (try have H4 := Hid.mk (H4.out.below hb))
                      (try have AM := Hid.mk (blk_below AM.out hb))
                      have H4 := Hid.mk hl
                      clear hl hfr
                      refine hK.out _ _ ?_ (fun hHeld => ?_)
                      · exact ⟨cell_keep hb hHeld.1, cell_keep hb hHeld.2.1, cell_keep hb hHeld.2.2.1, cell_keep hb hHeld.2.2.2.1, cell_keep hb hHeld.2.2.2.2.1, cell_keep hb hHeld.2.2.2.2.2⟩
                      clear hK K
                      (try simp only [Act.put, List.setIfInBounds_toArray, List.set_cons_zero, List.set_cons_succ, List.getElem_toArray, List.getElem_cons_zero, List.getElem_cons_succ])
                      refine wpAnyH_take (i := 20) (v := ?_) rfl (by kernel_rfl) (by kernel_rfl) (by kernel_rfl) (fun _ _ _ h => h) (Or.inl ⟨by rfl, ?_⟩) (by assumption) ?_
                      rotate_left
                      · intro w hSw; (try dsimp only at hSw); go_simp; (try with_reducible rfl)
                      rotate_left
                      simp only [Act.put, List.setIfInBounds_toArray, List.set_cons_zero, List.set_cons_succ, List.getElem_toArray, List.getElem_cons_zero, List.getElem_cons_succ]
                      refine wpAnyH_ready (rs := [22]) (by kernel_rfl) (by simp) ?_
                      refine AllReadyH.cons rfl (fun K hK => ?_) ?_
                      · rw [if_pos (by rfl)]
                        have hne := Hid.mk (li_ne (x := .slice none 0 0) HO.out (by simp [startL]) AM.out (fun z => by simp))
                        refine wp_store_row _ _ _ rfl _ #[.slice (some ⟨g3, 0, none⟩) Rn c3', .slice a4 Sn c4, .int .i64 0, .int .i64 (I.V u).b, .int .i64 (-1), .int .i64 (I.nQ : Int), .int .i64 (-1)] rfl rfl _ _ AM.out infoMm rfl (by simp [Value.oneCell']) ?_
                        refine hK.out _ _ ?_ (fun hHeld => ?_)
                        · exact ⟨cell_srow hHeld.1 (by have z1 := hM.out; have z2 := hgv.out; first | omega | (have z3 := lt_drew z1; omega)), cell_srow hHeld.2.1 (by have z1 := hM.out; have z2 := hgv.out; first | omega | (have z3 := lt_drew z1; omega)), cell_srow hHeld.2.2.1 (by have z1 := hM.out; have z2 := hgv.out; first | omega | (have z3 := lt_drew z1; omega)), cell_srow hHeld.2.2.2.1 (by have z1 := hM.out; have z2 := hgv.out; first | omega | (have z3 := lt_drew z1; omega)), cell_srow hHeld.2.2.2.2.1 (by have z1 := hM.out; have z2 := hgv.out; first | omega | (have z3 := lt_drew z1; omega)), cell_srow hHeld.2.2.2.2.2 (by have z1 := hM.out; have z2 := hgv.out; first | omega | (have z3 := lt_drew z1; omega))⟩
                        clear hK K
                        (try simp only [Act.put, List.setIfInBounds_toArray, List.set_cons_zero, List.set_cons_succ, List.getElem_toArray, List.getElem_cons_zero, List.getElem_cons_succ])
                        refine wpAnyH_done (by kernel_rfl) ?_ _
                        go_wp2_with fail
                        go_meet
                        exact ⟨_, g3, c3', c4, a4, rfl, Hid.mk (by first | exact ⟨hM.out, HG3.out, HC3.out⟩ | exact ⟨lt_drew hM.out, HG3.out, HC3.out⟩), Hid.mk (srow_below HB.out (by have z1 := hM.out; have z2 := hgv.out; first | omega | (have z3 := lt_drew z1; omega)) _), Hid.mk (srow_self AM.out _), Hid.mk (srow_li HO.out hne.out _), Hid.mk (li_far H4.out N4.out _), Hid.mk ⟨F4.out, N4.out⟩, Hid.mk (srow_other A0.out (by have z1 := hM.out; have z2 := hgv.out; first | omega | (have z3 := lt_drew z1; omega)) _), Hid.mk (srow_other A1.out (by have z1 := hM.out; have z2 := hgv.out; first | omega | (have z3 := lt_drew z1; omega)) _), Hid.mk (srow_other A2.out (by have z1 := hM.out; have z2 := hgv.out; first | omega | (have z3 := lt_drew z1; omega)) _)⟩
                      exact AllReadyH.nil
                    exact AllReadyH.nil
                  exact AllReadyH.nil
                exact AllReadyH.nil
              exact AllReadyH.nil
            refine AllReadyH.cons rfl (fun K hK => ?_) ?_
            · go_simp
              have HB := Hid.mk (HB.out.alloc HB.out.size (.cells #[] 2))
              have A0 := Hid.mk (blk_alloc A0.out (.cells #[] 2))
              have A1 := Hid.mk (blk_alloc A1.out (.cells #[] 2))
              have A2 := Hid.mk (blk_alloc A2.out (.cells #[] 2))
              (try have HZ := Hid.mk (HZ.out.below ((Below.refl _ _).alloc (Nat.le_refl _) (.cells #[] 2))))
              (try have HAt := Hid.mk (HAt.out.below ((Below.refl _ _).alloc (Nat.le_refl _) (.cells #[] 2))))
              (try have HO := Hid.mk (HO.out.below ((Below.refl _ _).alloc (Nat.le_refl _) (.cells #[] 2))))
              (try have H4 := Hid.mk (H4.out.below ((Below.refl _ _).alloc (Nat.le_refl _) (.cells #[] 2))))
              (try have AM := Hid.mk (blk_alloc AM.out (.cells #[] 2)))
              refine hK.out _ _ ?_ (fun hHeld => ?_)
              · exact ⟨cell_alloc' hHeld.1 _, cell_alloc' hHeld.2.1 _, cell_alloc' hHeld.2.2.1 _, cell_alloc' hHeld.2.2.2.1 _, cell_alloc' hHeld.2.2.2.2.1 _, cell_alloc' hHeld.2.2.2.2.2 _⟩
              clear hK K
              (try simp only [Act.put, List.setIfInBounds_toArray, List.set_cons_zero, List.set_cons_succ, List.getElem_toArray, List.getElem_cons_zero, List.getElem_cons_succ])
              refine wpAnyH_ready (rs := [2]) (by kernel_rfl) (by simp) ?_
              refine AllReadyH.cons rfl (fun K hK => ?_) ?_
              · go_simp
                refine (zerosS Rn _ (by omega)).mono ?_
                rintro e wa ⟨az, cz, rfl, hl, hb, hfr, hcz⟩
                have HB := Hid.mk (below_then HB.out hb)
                have A0 := Hid.mk (blk_below A0.out hb)
                have A1 := Hid.mk (blk_below A1.out hb)
                have A2 := Hid.mk (blk_below A2.out hb)
                (try have HZ := Hid.mk (HZ.out.below hb))
                (try have HAt := Hid.mk (HAt.out.below hb))
                (try have HO := Hid.mk (HO.out.below hb))
                (try have H4 := Hid.mk (H4.out.below hb))
                (try have AM := Hid.mk (blk_below AM.out hb))
                have HZ := Hid.mk hl
                have HCZ := Hid.mk hcz
                clear hl hcz hfr
                refine hK.out _ _ ?_ (fun hHeld => ?_)
                · exact ⟨cell_keep hb hHeld.1, cell_keep hb hHeld.2.1, cell_keep hb hHeld.2.2.1, cell_keep hb hHeld.2.2.2.1, cell_keep hb hHeld.2.2.2.2.1, cell_keep hb hHeld.2.2.2.2.2⟩
                clear hK K
                (try simp only [Act.put, List.setIfInBounds_toArray, List.set_cons_zero, List.set_cons_succ, List.getElem_toArray, List.getElem_cons_zero, List.getElem_cons_succ])
                refine wpAnyH_ready (rs := [6]) (by kernel_rfl) (by simp) ?_
                refine AllReadyH.cons rfl (fun K hK => ?_) ?_
                · go_simp
                  refine (attrsS (some ⟨gv, ov, none⟩) b2 b3 d1 d2 d3 I u _ _ (HI.out.below HB.out) hu q1 q2 ob.out).mono ?_
                  rintro e wb ⟨ga, rfl, hl, hb, hga⟩
                  have HB := Hid.mk (below_then HB.out hb)
                  have A0 := Hid.mk (blk_below A0.out hb)
                  have A1 := Hid.mk (blk_below A1.out hb)
                  have A2 := Hid.mk (blk_below A2.out hb)
                  (try have HZ := Hid.mk (HZ.out.below hb))
                  (try have HAt := Hid.mk (HAt.out.below hb))
                  (try have HO := Hid.mk (HO.out.below hb))
                  (try have H4 := Hid.mk (H4.out.below hb))
                  (try have AM := Hid.mk (blk_below AM.out hb))
                  have HAt := Hid.mk hl
                  clear hl hga
                  refine hK.out _ _ ?_ (fun hHeld => ?_)
                  · exact ⟨cell_keep hb hHeld.1, cell_keep hb hHeld.2.1, cell_keep hb hHeld.2.2.1, cell_keep hb hHeld.2.2.2.1, cell_keep hb hHeld.2.2.2.2.1, cell_keep hb hHeld.2.2.2.2.2⟩
                  clear hK K
                  (try simp only [Act.put, List.setIfInBounds_toArray, List.set_cons_zero, List.set_cons_succ, List.getElem_toArray, List.getElem_cons_zero, List.getElem_cons_succ])
                  refine wpAnyH_ready (rs := [7]) (by kernel_rfl) (by simp) ?_
                  refine AllReadyH.cons rfl (fun K hK => ?_) ?_
                  · go_simp
                    refine (overS az (some ⟨ga, 0, none⟩) Rn cz 13 (zeros Rn) (startL I u) _ (zeros_len _).symm rfl HZ.out HAt.out lR0 HCZ.out (by omega)).mono ?_
                    rintro e wd ⟨g3, c3', rfl, hl, hb, hg3, hc3⟩
                    have HC3 := Hid.mk hc3
                    have HG3 := Hid.mk (Nat.lt_of_lt_of_le (blk_lt A2.out) hg3)
                    have HB := Hid.mk (below_then HB.out hb)
                    have A0 := Hid.mk (blk_below A0.out hb)
                    have A1 := Hid.mk (blk_below A1.out hb)
                    have A2 := Hid.mk (blk_below A2.out hb)
                    (try have HZ := Hid.mk (HZ.out.below hb))
                    (try have HAt := Hid.mk (HAt.out.below hb))
                    (try have HO := Hid.mk (HO.out.below hb))
                    (try have H4 := Hid.mk (H4.out.below hb))
                    (try have AM := Hid.mk (blk_below AM.out hb))
                    have HO := Hid.mk hl
                    clear hl hg3
                    refine hK.out _ _ ?_ (fun hHeld => ?_)
                    · exact ⟨cell_keep hb hHeld.1, cell_keep hb hHeld.2.1, cell_keep hb hHeld.2.2.1, cell_keep hb hHeld.2.2.2.1, cell_keep hb hHeld.2.2.2.2.1, cell_keep hb hHeld.2.2.2.2.2⟩
                    clear hK K
                    (try simp only [Act.put, List.setIfInBounds_toArray, List.set_cons_zero, List.set_cons_succ, List.getElem_toArray, List.getElem_cons_zero, List.getElem_cons_succ])
                    refine wpAnyH_ready (rs := [12]) (by kernel_rfl) (by simp) ?_
                    refine AllReadyH.cons rfl (fun K hK => ?_) ?_
                    · go_simp
                      refine (zerosS Sn _ (by omega)).mono ?_
                      rintro e we ⟨a4, c4, rfl, hl, hb, hfr, -⟩
                      (try have N4 := Hid.mk (li_new (l := zeros Sn) hfr (blk_lt AM.out)))
                      have F4 : Hid (∀ x, a4 = some x → w.heap.size + 1 + 1 < x.block) := Hid.mk fun x hx => Nat.lt_of_lt_of_le (blk_lt A2.out) (hfr x hx)
                      have HB := Hid.mk (below_then HB.out hb)
                      have A0 := Hid.mk (blk_below A0.out hb)
                      have A1 := Hid.mk (blk_below A1.out hb)
                      have A2 := Hid.mk (blk_below A2.out hb)
                      (try have HZ := Hid.mk (HZ.out.below hb))
                      (try have HAt := Hid.mk (HAt.out.below hb))
                      (try have HO := Hid.mk (HO.out.below hb))
                      (try have H4 := Hid.mk (H4.out.below hb))
                      (try have AM := Hid.mk (blk_below AM.out hb))
                      have H4 := Hid.mk hl
                      clear hl hfr
                      refine hK.out _ _ ?_ (fun hHeld => ?_)
                      · exact ⟨cell_keep hb hHeld.1, cell_keep hb hHeld.2.1, cell_keep hb hHeld.2.2.1, cell_keep hb hHeld.2.2.2.1, cell_keep hb hHeld.2.2.2.2.1, cell_keep hb hHeld.2.2.2.2.2⟩
                      clear hK K
                      (try simp only [Act.put, List.setIfInBounds_toArray, List.set_cons_zero, List.set_cons_succ, List.getElem_toArray, List.getElem_cons_zero, List.getElem_cons_succ])
                      refine wpAnyH_take (i := 20) (v := ?_) rfl (by kernel_rfl) (by kernel_rfl) (by kernel_rfl) (fun _ _ _ h => h) (Or.inl ⟨by rfl, ?_⟩) (by assumption) ?_
                      rotate_left
                      · intro w hSw; (try dsimp only at hSw); go_simp; (try with_reducible rfl)
                      rotate_left
                      simp only [Act.put, List.setIfInBounds_toArray, List.set_cons_zero, List.set_cons_succ, List.getElem_toArray, List.getElem_cons_zero, List.getElem_cons_succ]
                      refine wpAnyH_ready (rs := [22]) (by kernel_rfl) (by simp) ?_
                      refine AllReadyH.cons rfl (fun K hK => ?_) ?_
                      · rw [if_pos (by rfl)]
                        have hne := Hid.mk (li_ne (x := .slice none 0 0) HO.out (by simp [startL]) AM.out (fun z => by simp))
                        refine wp_store_row _ _ _ rfl _ #[.slice (some ⟨g3, 0, none⟩) Rn c3', .slice a4 Sn c4, .int .i64 0, .int .i64 (I.V u).b, .int .i64 (-1), .int .i64 (I.nQ : Int), .int .i64 (-1)] rfl rfl _ _ AM.out infoMm rfl (by simp [Value.oneCell']) ?_
                        refine hK.out _ _ ?_ (fun hHeld => ?_)
                        · exact ⟨cell_srow hHeld.1 (by have z1 := hM.out; have z2 := hgv.out; first | omega | (have z3 := lt_drew z1; omega)), cell_srow hHeld.2.1 (by have z1 := hM.out; have z2 := hgv.out; first | omega | (have z3 := lt_drew z1; omega)), cell_srow hHeld.2.2.1 (by have z1 := hM.out; have z2 := hgv.out; first | omega | (have z3 := lt_drew z1; omega)), cell_srow hHeld.2.2.2.1 (by have z1 := hM.out; have z2 := hgv.out; first | omega | (have z3 := lt_drew z1; omega)), cell_srow hHeld.2.2.2.2.1 (by have z1 := hM.out; have z2 := hgv.out; first | omega | (have z3 := lt_drew z1; omega)), cell_srow hHeld.2.2.2.2.2 (by have z1 := hM.out; have z2 := hgv.out; first | omega | (have z3 := lt_drew z1; omega))⟩
                        clear hK K
                        (try simp only [Act.put, List.setIfInBounds_toArray, List.set_cons_zero, List.set_cons_succ, List.getElem_toArray, List.getElem_cons_zero, List.getElem_cons_succ])
                        refine wpAnyH_done (by kernel_rfl) ?_ _
                        go_wp2_with fail
                        go_meet
                        exact ⟨_, g3, c3', c4, a4, rfl, Hid.mk (by first | exact ⟨hM.out, HG3.out, HC3.out⟩ | exact ⟨lt_drew hM.out, HG3.out, HC3.out⟩), Hid.mk (srow_below HB.out (by have z1 := hM.out; have z2 := hgv.out; first | omega | (have z3 := lt_drew z1; omega)) _), Hid.mk (srow_self AM.out _), Hid.mk (srow_li HO.out hne.out _), Hid.mk (li_far H4.out N4.out _), Hid.mk ⟨F4.out, N4.out⟩, Hid.mk (srow_other A0.out (by have z1 := hM.out; have z2 := hgv.out; first | omega | (have z3 := lt_drew z1; omega)) _), Hid.mk (srow_other A1.out (by have z1 := hM.out; have z2 := hgv.out; first | omega | (have z3 := lt_drew z1; omega)) _), Hid.mk (srow_other A2.out (by have z1 := hM.out; have z2 := hgv.out; first | omega | (have z3 := lt_drew z1; omega)) _)⟩
                      exact AllReadyH.nil
                    exact AllReadyH.nil
                  exact AllReadyH.nil
                exact AllReadyH.nil
              exact AllReadyH.nil
            exact AllReadyH.nil
          exact AllReadyH.nil
        case rest =>
          obtain ⟨M, g3, c3', c4, a4, rfl, hM, HB, AM, HO, H4, F4, A0, A1, A2⟩ := hcut
          have q0 := blk_cell A0.out 2
          have m0 := blk_cell AM.out 0
          have m1 := blk_cell AM.out 1
          have m2 := blk_cell AM.out 2
          have m3 := blk_cell AM.out 3
          have m4 := blk_cell AM.out 4
          have m5 := blk_cell AM.out 5
          have m6 := blk_cell AM.out 6
          simp only [List.getElem?_toArray, List.getElem?_cons_zero, List.getElem?_cons_succ] at q0 m0 m1 m2 m3 m4 m5 m6
          have ln2 : Hid (Rn = (startL I u ++ (zeros Rn).drop 13).length) := by
            unfold Hid
            rw [List.length_append, List.length_drop, zeros_len]
            simp only [startL, List.length_cons, List.length_nil]
            omega
          have hMst : Hid (Mst wc (enHome I u) C.B1 C.n1 a1 C.R C.S (some ⟨g3, 0, none⟩) a4 Rn Sn (startL I u ++ (zeros Rn).drop 13) (zeros Sn)) :=
            ⟨HO.out, H4.out, ln2.out, (zeros_len _).symm, lR, lS, bd_over (startL_bd HV.out hu) (zeros_bd _), zeros_bd _, HRn.out.symm, by simpa [enHome] using HSn.out.symm, kS1, home_ok HV.out hu, (HC.out.below HB.out).b1, (blk_ok hb1.out).1⟩
          go_wp2_with fail
          refine (execS (enHome I u) C.B1 C.n1 a1 c1 C.R C.S Rn Sn (blk_ok hb1.out).2 C.n1 0 _ _ _ _ _ _ _ (by omega) hMst.out).mono ?_
          rename_i hKK
          rintro e w8 ⟨ar', al', cr', cs', rfl, hr', hs', nwr, nws, hb4, hcx⟩
          have HCX := Hid.mk (hcx hM.out.2.2)
          clear hcx
          refine hKK _ _ ?_
          clear hKK
          have HB4 := Hid.mk (below_then HB.out hb4)
          have AM4 := Hid.mk (blk_below AM.out hb4)
          have A14 := Hid.mk (blk_below A1.out hb4)
          have A24 := Hid.mk (blk_below A2.out hb4)
          have hlen := exec_len (E := enHome I u) (B := C.B1) (n := C.n1) C.n1 0 (startL I u ++ (zeros Rn).drop 13) (zeros Sn)
          generalize hout : (exec (enHome I u) C.B1 C.n1 C.n1 0 (startL I u ++ (zeros Rn).drop 13) (zeros Sn)) = out at hr' hs' hlen ⊢
          have HOUT : Hid (startOut C I u = out) := by
            unfold Hid startOut
            rw [HRn.out, HSn.out, Int.toNat_natCast, Int.toNat_natCast]
            exact hout
          have hMlt := blk_lt AM.out
          have hg3M := li_ne (x := .slice (some ⟨g3, 0, none⟩) Rn c3') HO.out (by simp [startL]) AM.out (fun z => by simp)
          have LR : Hid (Li w8 ar' out.1 ∧ out.1.length = Rn ∧ ∀ b, ar' = some b → w.heap.size + 1 + 1 < b.block ∧ b.block ≠ M) := by
            refine ⟨hr', by rw [hlen.1, ← ln2.out], fun b hb => ?_⟩
            have z := hM.out
            rcases nwr with e | e
            · rw [e] at hb; cases hb; exact ⟨z.2.1, hg3M⟩
            · have := e b hb; have z1 := blk_lt A2.out; exact ⟨by omega, by omega⟩
          have LS : Hid (Li w8 al' out.2.1 ∧ out.2.1.length = Sn ∧ (∀ b, al' = some b → w.heap.size + 1 + 1 < b.block) ∧ (out.2.1.length = 0 ∨ ∀ b, al' = some b → b.block ≠ M)) := by
            refine ⟨hs', by rw [hlen.2, zeros_len], ?_, ?_⟩
            · intro b hb
              rcases nws with e | e
              · rw [e] at hb; exact F4.out.1 b hb
              · have := e b hb; have z1 := blk_lt A2.out; omega
            · rcases nws with e | e
              · rw [e, hlen.2]; exact F4.out.2
              · exact Or.inr fun b hb => by have := e b hb; omega
          clear hb4 q0 m0 m1 m2 m3 m4 m5 m6 AM HO H4 F4 A0 A1 A2 hMst hr' hs' nwr nws hlen hout
          refine wpList_store_row rfl _ _ _ rfl M #[.slice ar' Rn cr', .slice al' Sn cs', .int .i64 (enHome I u).tags, .int .i64 (enHome I u).skills, .int .i64 (enHome I u).q, .int .i64 ((enHome I u).nQ : Int), .int .i64 out.2.2] rfl rfl _ _ AM4.out infoMm rfl (by simp [Value.oneCell']) ?_
          rw [show (#[.slice ar' Rn cr', .slice al' Sn cs', .int .i64 (enHome I u).tags, .int .i64 (enHome I u).skills, .int .i64 (enHome I u).q, .int .i64 ((enHome I u).nQ : Int), .int .i64 out.2.2] : Array Value) = #[.slice ar' Rn cr', .slice al' Sn cs', .int .i64 0, .int .i64 (I.V u).b, .int .i64 (-1), .int .i64 (I.nQ : Int), .int .i64 out.2.2] from rfl]
          obtain ⟨Y, hY⟩ : ∃ Y, Y = w8.setRow M #[.slice ar' Rn cr', .slice al' Sn cs', .int .i64 0, .int .i64 (I.V u).b, .int .i64 (-1), .int .i64 (I.nQ : Int), .int .i64 out.2.2] := ⟨_, rfl⟩
          rw [← hY]
          have BY : Hid (Below w.heap.size w Y) := by unfold Hid; rw [hY]; exact srow_below HB4.out (by have := hM.out; omega) _
          have R6 : Hid (Y.heap[M]? = some (.cells #[.slice ar' Rn cr', .slice al' Sn cs', .int .i64 0, .int .i64 (I.V u).b, .int .i64 (-1), .int .i64 (I.nQ : Int), .int .i64 out.2.2] 83)) := by unfold Hid; rw [hY]; exact srow_self AM4.out _
          have Y1 : Hid (Y.heap[w.heap.size + 1]? = some (.cells #[.slice (some ⟨gv, ov, none⟩) I.nV d1, .slice b2 I.nQ d2, .slice b3 I.nR d3] 44)) := by unfold Hid; rw [hY]; exact srow_other A14.out (by have := hM.out; omega) _
          have Y3 : Hid (Y.heap[w.heap.size + 1 + 1]? = some (.cells #[.int .i64 0, .int .i64 0, .int .i64 0, .int .i64 0, .int .i64 0, .int .i64 0, .slice none 0 0, .slice none 0 0, .slice none 0 0] 34)) := by unfold Hid; rw [hY]; exact srow_other A24.out (by have := hM.out; omega) _
          have LR' : Hid (Li Y ar' out.1 ∧ out.1.length = Rn ∧ ∀ b, ar' = some b → w.heap.size + 1 + 1 < b.block) := by
            have z := LR.out
            unfold Hid
            rw [hY]
            exact ⟨li_far z.1 (Or.inr fun b hb => (z.2.2 b hb).2) _, z.2.1, fun b hb => (z.2.2 b hb).1⟩
          have LS' : Hid (Li Y al' out.2.1 ∧ out.2.1.length = Sn ∧ ∀ b, al' = some b → w.heap.size + 1 + 1 < b.block) := by
            have z := LS.out
            unfold Hid
            rw [hY]
            exact ⟨li_far z.1 z.2.2.2 _, z.2.1, z.2.2.1⟩
          clear hY HB4 AM4 A14 A24 LR LS
          have n6 := blk_cell R6.out 6
          simp only [List.getElem?_toArray, List.getElem?_cons_zero, List.getElem?_cons_succ] at n6
          by_cases hl : 0 ≤ out.2.2
          · have HF : Hid (startB C I (u : Int) = bareS 0 out.2.2) := by
              unfold Hid startB
              rw [if_pos ⟨HOK.out, HTR.out⟩, Int.toNat_natCast, HOUT.out, if_pos hl]
            have e4 : decide (0 ≤ out.2.2) = true := by simp [hl]
            clear hl
            go_wp2_with fail
            refine (failedS 0 out.2.2 _).mono ?_
            rename_i hKK
            rintro e wz ⟨rfl, hbz⟩
            refine hKK _ _ ?_
            clear hKK
            have AZ := Hid.mk (blk_below Y3.out hbz)
            have BZ := Hid.mk (below_then BY.out hbz)
            clear hbz
            refine wpList_store_row rfl _ _ _ rfl (w.heap.size + 1 + 1) #[.int .i64 0, .int .i64 out.2.2, .int .i64 0, .int .i64 0, .int .i64 0, .int .i64 0, .slice none 0 0, .slice none 0 0, .slice none 0 0] rfl rfl _ _ AZ.out infoSt rfl (by simp [Value.oneCell']) ?_
            go_wp2
            refine bodyPost_ret (results_cell_row Tryz.results9 _ _ (w.heap.size + 1 + 1) _ _ _ _ (by simp [Act.put]) (row_self AZ.out _) Tryz.underlying34 rfl infoSt) rfl ?_
            exact ⟨none, none, none, 0, 0, 0, by rw [HF.out]; rfl, by rw [HF.out]; exact bare_at _ _ _, row_below BZ.out (by omega) _, by rw [HF.out]; exact bare_fre _ _ _, by rw [HF.out]; exact Nat.le_refl _⟩
          · have HF : Hid (startB C I (u : Int) = ⟨0, -1, (u : Int), (I.V u).o, 0, 0, I.nQ, Rn, Sn, fun i => (zeros I.nQ).getD i 0, fun i => out.1.getD i 0, fun i => out.2.1.getD i 0⟩) := by
              unfold Hid startB
              rw [if_pos ⟨HOK.out, HTR.out⟩, Int.toNat_natCast, HOUT.out, if_neg hl, HRn.out, HSn.out, Int.toNat_natCast, Int.toNat_natCast, pl_veh hu]
              rfl
            have e4 : decide (0 ≤ out.2.2) = false := by simp [hl]
            clear hl
            have ko := cell_keep BY.out KO.out
            have x0 := blk_cell Y1.out 0
            have r0 := blk_cell R6.out 0
            have r1 := blk_cell R6.out 1
            simp only [List.getElem?_toArray, List.getElem?_cons_zero, List.getElem?_cons_succ] at x0 r0 r1
            go_upto_region 8 with fail
            have HS8 := Hid.mk (And.intro x0 (And.intro ko (And.intro r0 r1)))
            clear x0 ko r0 r1 n6
            go_cut [] (fun wx => ∃ (c6 : Nat) (a6 : Option Addr), Hid (Below w.heap.size w wx) ∧ Hid (wx.heap[w.heap.size + 1 + 1]? = some (.cells #[.int .i64 0, .int .i64 (-1), .int .i64 (u : Int), .int .i64 (I.V u).o, .int .i64 0, .int .i64 0, .slice a6 I.nQ c6, .slice ar' Rn cr', .slice al' Sn cs'] 34)) ∧ Hid (Li wx a6 (zeros I.nQ)) ∧ Hid (Li wx ar' out.1 ∧ out.1.length = Rn) ∧ Hid (Li wx al' out.2.1 ∧ out.2.1.length = Sn) ∧ Hid (∀ x, a6 = some x → w.heap.size + 1 + 1 < x.block))
            case first =>
              have BY := Hid.mk BY.out.drew
              have Y3 := Hid.mk (blk_drew Y3.out)
              have LR' := Hid.mk (And.intro (LR'.out.1.below (Below.refl _ _).drew) LR'.out.2)
              have LS' := Hid.mk (And.intro (LS'.out.1.below (Below.refl _ _).drew) LS'.out.2)
              refine wp_region_held_drew (S := (fun w' => w'.cell? ⟨w.heap.size + 1, 0, none⟩ = some (.slice (some ⟨gv, ov, none⟩) I.nV d1) ∧ w'.cell? ⟨gv, ov + u * 7 + 4, none⟩ = some (.int .i64 (I.V u).o) ∧ w'.cell? ⟨M, 0, none⟩ = some (.slice ar' Rn cr') ∧ w'.cell? ⟨M, 1, none⟩ = some (.slice al' Sn cs'))) (by kernel_rfl) ?_ (fun hHeld => ?_)
              · exact HS8.out
              refine wpAnyH_take (i := 0) (v := ?_) rfl (by kernel_rfl) (by kernel_rfl) (by kernel_rfl) (fun _ _ _ h => h) (Or.inl ⟨by rfl, ?_⟩) (by assumption) ?_
              rotate_left
              · intro w hSw; (try dsimp only at hSw); go_simp; (try with_reducible rfl)
              rotate_left
              simp only [Act.put, List.setIfInBounds_toArray, List.set_cons_zero, List.set_cons_succ, List.getElem_toArray, List.getElem_cons_zero, List.getElem_cons_succ]
              refine wpAnyH_take (i := 1) (v := ?_) rfl (by kernel_rfl) (by kernel_rfl) (by kernel_rfl) (fun _ _ _ h => h) (Or.inl ⟨by rfl, ?_⟩) (by assumption) ?_
              rotate_left
              · intro w hSw; (try dsimp only at hSw); go_simp; (try with_reducible rfl)
              rotate_left
              simp only [Act.put, List.setIfInBounds_toArray, List.set_cons_zero, List.set_cons_succ, List.getElem_toArray, List.getElem_cons_zero, List.getElem_cons_succ]
              refine wpAnyH_take (i := 2) (v := ?_) rfl (by kernel_rfl) (by kernel_rfl) (by kernel_rfl) (fun _ _ _ h => h) (Or.inl ⟨by rfl, ?_⟩) (by assumption) ?_
              rotate_left
              · intro w hSw; (try dsimp only at hSw); go_simp; (try with_reducible rfl)
              rotate_left
              simp only [Act.put, List.setIfInBounds_toArray, List.set_cons_zero, List.set_cons_succ, List.getElem_toArray, List.getElem_cons_zero, List.getElem_cons_succ]
              refine wpAnyH_take (i := 3) (v := ?_) rfl (by kernel_rfl) (by kernel_rfl) (by kernel_rfl) (fun _ _ _ h => h) (Or.inl ⟨by rfl, ?_⟩) (by assumption) ?_
              rotate_left
              · intro w hSw; (try dsimp only at hSw); go_simp; (try with_reducible rfl)
              rotate_left
              simp only [Act.put, List.setIfInBounds_toArray, List.set_cons_zero, List.set_cons_succ, List.getElem_toArray, List.getElem_cons_zero, List.getElem_cons_succ]
              refine wpAnyH_take (i := 4) (v := ?_) rfl (by kernel_rfl) (by kernel_rfl) (by kernel_rfl) (fun _ _ _ h => h) (Or.inl ⟨by rfl, ?_⟩) (by assumption) ?_
              rotate_left
              · intro w hSw; (try dsimp only at hSw); go_simp; (try with_reducible rfl)
              rotate_left
              simp only [Act.put, List.setIfInBounds_toArray, List.set_cons_zero, List.set_cons_succ, List.getElem_toArray, List.getElem_cons_zero, List.getElem_cons_succ]
              refine wpAnyH_take (i := 5) (v := ?_) rfl (by kernel_rfl) (by kernel_rfl) (by kernel_rfl) (fun _ _ _ h => h) (Or.inl ⟨by rfl, ?_⟩) (by assumption) ?_
              rotate_left
              · intro w hSw; (try dsimp only at hSw); go_simp; (try with_reducible rfl)
              rotate_left
              simp only [Act.put, List.setIfInBounds_toArray, List.set_cons_zero, List.set_cons_succ, List.getElem_toArray, List.getElem_cons_zero, List.getElem_cons_succ]
              refine wpAnyH_take (i := 6) (v := ?_) rfl (by kernel_rfl) (by kernel_rfl) (by kernel_rfl) (fun _ _ _ h => h) (Or.inl ⟨by rfl, ?_⟩) (by assumption) ?_
              rotate_left
              · intro w hSw; (try dsimp only at hSw); go_simp; (try with_reducible rfl)
              rotate_left
              simp only [Act.put, List.setIfInBounds_toArray, List.set_cons_zero, List.set_cons_succ, List.getElem_toArray, List.getElem_cons_zero, List.getElem_cons_succ]
              refine wpAnyH_take (i := 7) (v := ?_) rfl (by kernel_rfl) (by kernel_rfl) (by kernel_rfl) (fun _ _ _ h => h) (Or.inl ⟨by rfl, ?_⟩) (by assumption) ?_
              rotate_left
              · intro w hSw; (try dsimp only at hSw); go_simp; (try with_reducible rfl)
              rotate_left
              simp only [Act.put, List.setIfInBounds_toArray, List.set_cons_zero, List.set_cons_succ, List.getElem_toArray, List.getElem_cons_zero, List.getElem_cons_succ]
              refine wpAnyH_take (i := 8) (v := ?_) rfl (by kernel_rfl) (by kernel_rfl) (by kernel_rfl) (fun _ _ _ h => h) (Or.inl ⟨by rfl, ?_⟩) (by assumption) ?_
              rotate_left
              · intro w hSw; (try dsimp only at hSw); go_simp; (try with_reducible rfl)
              rotate_left
              simp only [Act.put, List.setIfInBounds_toArray, List.set_cons_zero, List.set_cons_succ, List.getElem_toArray, List.getElem_cons_zero, List.getElem_cons_succ]
              refine wpAnyH_take (i := 10) (v := ?_) rfl (by kernel_rfl) (by kernel_rfl) (by kernel_rfl) (fun _ _ _ h => h) (Or.inl ⟨by rfl, ?_⟩) (by assumption) ?_
              rotate_left
              · intro w hSw; (try dsimp only at hSw); go_simp; (try with_reducible rfl)
              rotate_left
              simp only [Act.put, List.setIfInBounds_toArray, List.set_cons_zero, List.set_cons_succ, List.getElem_toArray, List.getElem_cons_zero, List.getElem_cons_succ]
              refine wpAnyH_take (i := 11) (v := ?_) rfl (by kernel_rfl) (by kernel_rfl) (by kernel_rfl) (fun _ _ _ h => h) (Or.inl ⟨by rfl, ?_⟩) (by assumption) ?_
              rotate_left
              · intro w hSw; (try dsimp only at hSw); go_simp; (try with_reducible rfl)
              rotate_left
              simp only [Act.put, List.setIfInBounds_toArray, List.set_cons_zero, List.set_cons_succ, List.getElem_toArray, List.getElem_cons_zero, List.getElem_cons_succ]
              refine wpAnyH_take (i := 12) (v := ?_) rfl (by kernel_rfl) (by kernel_rfl) (by kernel_rfl) (fun _ _ _ h => h) (Or.inl ⟨by rfl, ?_⟩) (by assumption) ?_
              rotate_left
              · intro w hSw; (try dsimp only at hSw); go_simp; (try with_reducible rfl)
              rotate_left
              simp only [Act.put, List.setIfInBounds_toArray, List.set_cons_zero, List.set_cons_succ, List.getElem_toArray, List.getElem_cons_zero, List.getElem_cons_succ]
              refine wpAnyH_take (i := 13) (v := ?_) rfl (by kernel_rfl) (by kernel_rfl) (by kernel_rfl) (fun _ _ _ h => h) (Or.inl ⟨by rfl, ?_⟩) (by assumption) ?_
              rotate_left
              · intro w hSw; (try dsimp only at hSw); go_simp; (try with_reducible rfl)
              rotate_left
              simp only [Act.put, List.setIfInBounds_toArray, List.set_cons_zero, List.set_cons_succ, List.getElem_toArray, List.getElem_cons_zero, List.getElem_cons_succ]
              refine wpAnyH_ready (rs := [9]) (by kernel_rfl) (by simp) ?_
              refine AllReadyH.cons rfl (fun K hK => ?_) ?_
              · go_simp
                refine (zerosS I.nQ _ (by omega)).mono ?_
                rintro e w9 ⟨a6, c6, rfl, hl, hb, hfr, -⟩
                have F6 : Hid (∀ x, a6 = some x → w.heap.size + 1 + 1 < x.block) := Hid.mk fun x hx => Nat.lt_of_lt_of_le (blk_lt Y3.out) (hfr x hx)
                have BY := Hid.mk (below_then BY.out hb)
                have Y3 := Hid.mk (blk_below Y3.out hb)
                have LR' := Hid.mk (And.intro (LR'.out.1.below hb) LR'.out.2)
                have LS' := Hid.mk (And.intro (LS'.out.1.below hb) LS'.out.2)
                have H6 := Hid.mk hl
                clear hl hfr
                refine hK.out _ _ ?_ (fun hHeld => ?_)
                · exact ⟨cell_keep hb hHeld.1, cell_keep hb hHeld.2.1, cell_keep hb hHeld.2.2.1, cell_keep hb hHeld.2.2.2⟩
                clear hK K
                (try simp only [Act.put, List.setIfInBounds_toArray, List.set_cons_zero, List.set_cons_succ, List.getElem_toArray, List.getElem_cons_zero, List.getElem_cons_succ])
                refine wpAnyH_take (i := 14) (v := ?_) rfl (by kernel_rfl) (by kernel_rfl) (by kernel_rfl) (fun _ _ _ h => h) (Or.inl ⟨by rfl, ?_⟩) (by assumption) ?_
                rotate_left
                · intro w hSw; (try dsimp only at hSw); go_simp; (try with_reducible rfl)
                rotate_left
                simp only [Act.put, List.setIfInBounds_toArray, List.set_cons_zero, List.set_cons_succ, List.getElem_toArray, List.getElem_cons_zero, List.getElem_cons_succ]
                refine wpAnyH_ready (rs := [15]) (by kernel_rfl) (by simp) ?_
                refine AllReadyH.cons rfl (fun K hK => ?_) ?_
                · rw [if_pos (by rfl)]
                  refine wp_store_row _ _ _ rfl _ #[.int .i64 0, .int .i64 (-1), .int .i64 (u : Int), .int .i64 (I.V u).o, .int .i64 0, .int .i64 0, .slice a6 I.nQ c6, .slice ar' Rn cr', .slice al' Sn cs'] rfl rfl _ _ Y3.out infoSt rfl (by simp [Value.oneCell']) ?_
                  refine hK.out _ _ ?_ (fun hHeld => ?_)
                  · exact ⟨cell_srow hHeld.1 (by have z1 := hM.out; have z2 := hgv.out; omega), cell_srow hHeld.2.1 (by have z1 := hM.out; have z2 := hgv.out; omega), cell_srow hHeld.2.2.1 (by have z1 := hM.out; have z2 := hgv.out; omega), cell_srow hHeld.2.2.2 (by have z1 := hM.out; have z2 := hgv.out; omega)⟩
                  clear hK K
                  (try simp only [Act.put, List.setIfInBounds_toArray, List.set_cons_zero, List.set_cons_succ, List.getElem_toArray, List.getElem_cons_zero, List.getElem_cons_succ])
                  refine wpAnyH_done (by kernel_rfl) ?_ _
                  (try clear hHeld)
                  go_wp2_with fail
                  go_meet
                  exact ⟨c6, a6, Hid.mk (row_below BY.out (by omega) _), Hid.mk (row_self Y3.out _), Hid.mk (li_far H6.out (Or.inr fun b hb => Nat.ne_of_gt (F6.out b hb)) _), Hid.mk ⟨li_far LR'.out.1 (Or.inr fun b hb => Nat.ne_of_gt (LR'.out.2.2 b hb)) _, LR'.out.2.1⟩, Hid.mk ⟨li_far LS'.out.1 (Or.inr fun b hb => Nat.ne_of_gt (LS'.out.2.2 b hb)) _, LS'.out.2.1⟩, F6⟩
                exact AllReadyH.nil
              exact AllReadyH.nil
            case rest =>
              obtain ⟨c6, a6, BY, Y3, H6, LR2, LS2, F6⟩ := hcut
              go_wp2
              refine bodyPost_ret (results_cell_row Tryz.results9 _ _ (w.heap.size + 1 + 1) _ _ _ _ (by simp [Act.put]) Y3.out Tryz.underlying34 rfl infoSt) rfl ?_
              rw [HF.out]
              refine ⟨a6, ar', al', c6, cr', cs', rfl, ⟨?_, ?_, ?_⟩, BY.out, ⟨Or.inr fun x hx => by have z := F6.out x hx; omega, Or.inr fun x hx => by have z := LR'.out.2.2 x hx; omega, Or.inr fun x hx => by have z := LS'.out.2.2 x hx; omega⟩, HCX.out⟩
              · show NumsAt _ a6 I.nQ (fun i => (zeros I.nQ).getD i 0)
                have z := H6.out
                unfold Li at z
                rw [zeros_len] at z
                exact z
              · show NumsAt _ ar' Rn (fun i => out.1.getD i 0)
                have z := LR2.out.1
                unfold Li at z
                rw [LR2.out.2] at z
                exact z
              · show NumsAt _ al' Sn (fun i => out.2.1.getD i 0)
                have z := LS2.out.1
                unfold Li at z
                rw [LS2.out.2] at z
                exact z
end Go.Proofs.YtgooegcmgejfpaaGreatDoor.Mac
