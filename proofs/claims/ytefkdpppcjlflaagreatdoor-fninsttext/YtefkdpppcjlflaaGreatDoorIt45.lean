import Derived.Test.YtefkdpppcjlflaaGreatDoorIt11
import Derived.Deep.DrawnRows
namespace Go.Proofs.YtefkdpppcjlflaaGreatDoor.Valid
open Go Go.RowKit Go.Proofs.YtefkdpppcjlflaaGreatDoor.Mem
set_option linter.unusedVariables false
attribute [local go_sem ↓] Go.wp_at_zero Go.wp_at_succ

set_option maxHeartbeats 4000000 in
set_option maxRecDepth 100000 in
theorem validS (a1 a2 a3 : Option Addr) (c1 c2 c3 : Nat) (I : In) (w : World) (h : InAt w a1 a2 a3 I) (h1 : I.nV ≤ 1048576) (h2 : I.nQ ≤ 1048576) (h3 : I.nR ≤ 1048576) :
    Calls Tryz.prog 5 #[.agg #[.slice a1 I.nV c1, .slice a2 I.nQ c2, .slice a3 I.nR c3]] w fun e w' => e = .returned (.bool (validB I)) ∧ Below w.heap.size w w' := by
  have H := Hid.mk h
  clear h
  by_cases g1 : (64 : Int) < (I.nV : Int)
  · have hv : validB I = false := valid_lens (by simp [lens]; omega)
    rw [hv]; clear hv
    go_enter Tryz.func5, Tryz.ntmps5
    go_wp2
    go_ret
    exact ⟨rfl, by go_grown⟩
  have d1 : decide ((64 : Int) < (I.nV : Int)) = false := by simpa using g1
  by_cases g2 : (1000 : Int) < (I.nQ : Int)
  · have hv : validB I = false := valid_lens (by simp [lens]; omega)
    rw [hv]; clear hv
    go_enter Tryz.func5, Tryz.ntmps5
    go_wp2
    go_ret
    exact ⟨rfl, by go_grown⟩
  have d2 : decide ((1000 : Int) < (I.nQ : Int)) = false := by simpa using g2
  by_cases g3 : (4000 : Int) < (I.nR : Int)
  · have hv : validB I = false := valid_lens (by simp [lens]; omega)
    rw [hv]; clear hv
    go_enter Tryz.func5, Tryz.ntmps5
    go_wp2
    go_ret
    exact ⟨rfl, by go_grown⟩
  have d3 : decide ((4000 : Int) < (I.nR : Int)) = false := by simpa using g3
  have hlen : Hid (lens I = true) := by simp [Hid, lens]; omega
  have nb := nodes_bd I h1 h2
  go_enter Tryz.func5, Tryz.ntmps5
  go_wp2
  go_loopw [3] (fun i wr => ∃ k : Nat, k ≤ I.nV ∧ i = .int .i64 k ∧ Hid (Below w.heap.size w wr) ∧ Hid (wr.heap[w.heap.size]? = some (.cells #[.slice a1 I.nV c1, .slice a2 I.nQ c2, .slice a3 I.nR c3] 27)) ∧ Hid (allB k (fun i => gV (I.V i)) = true)) (fun i _ => I.nV - (intOf i).toNat)
  case atStart => exact ⟨0, Nat.zero_le _, rfl, (Below.refl _ _).alloc (Nat.le_refl _) _, blk_new _ _, rfl⟩
  case round =>
    obtain ⟨k, hk, rfl, hb, hx, ha⟩ := hrel
    have x0 := blk_cell hx.out 0
    simp only [List.getElem?_toArray, List.getElem?_cons_zero] at x0
    by_cases hlt : k < I.nV
    · rcases H.out.v with hs | ⟨b, off, rfl, hs⟩
      · omega
      obtain ⟨e0, e1, e2, e3, e4, e5, e6⟩ := Veh.at (rangeAt_below (hs k hlt) hb.out)
      clear hs
      cases hg : gV (I.V k) with
      | false =>
        have hv : Hid (validB I = false) := valid_V hlt hg
        have hg' : gVeh (I.V k).a (I.V k).b (I.V k).x (I.V k).y (I.V k).o (I.V k).c (I.V k).h = false := hg
        clear hg
        go_wp2_with (go_at_call 13; refine (vehS _ _ _ _ _ _ _ _).mono ?_; rintro e w1 ⟨rfl, hb1⟩)
        go_ret
        exact ⟨ret_bool hv.out.symm, below_then hb.out hb1⟩
      | true =>
        have hg' : gVeh (I.V k).a (I.V k).b (I.V k).x (I.V k).y (I.V k).o (I.V k).c (I.V k).h = true := hg
        have ha' : Hid (allB (k + 1) (fun i => gV (I.V i)) = true) := allB_succ ha.out hg
        clear hg
        go_wp2_with (go_at_call 13; refine (vehS _ _ _ _ _ _ _ _).mono ?_; rintro e w1 ⟨rfl, hb1⟩)
        exact ⟨⟨k + 1, by omega, by go_num, below_then hb.out hb1, blk_below hx.out hb1, ha'⟩, by simp [intOf]; omega⟩
    · have hkn : k = I.nV := by omega
      subst hkn
      have HV := ha
      clear ha hk
      go_wp2
      clear x0 hlt
      obtain ⟨wo, hwo⟩ : ∃ wo : World, wo = wr := ⟨_, rfl⟩
      rw [← hwo] at hb hx ⊢
      clear hwo
      go_loopw [4] (fun i wr => ∃ k : Nat, k ≤ I.nQ ∧ i = .int .i64 k ∧ Hid (Below w.heap.size w wr) ∧ Hid (wr.heap[w.heap.size]? = some (.cells #[.slice a1 I.nV c1, .slice a2 I.nQ c2, .slice a3 I.nR c3] 27)) ∧ Hid (allB k (fun i => gQ (I.Q i)) = true)) (fun i _ => I.nQ - (intOf i).toNat)
      case atStart => exact ⟨0, Nat.zero_le _, rfl, hb, hx, rfl⟩
      case round =>
        clear hb hx
        obtain ⟨k, hk, rfl, hb, hx, ha⟩ := hrel
        have x0 := blk_cell hx.out 1
        simp only [List.getElem?_toArray, List.getElem?_cons_zero, List.getElem?_cons_succ] at x0
        by_cases hlt : k < I.nQ
        · rcases H.out.q with hs | ⟨b, off, rfl, hs⟩
          · omega
          obtain ⟨e0, e1, e2, e3, e4, e5, e6, e7, e8, e9, e10, e11⟩ := Req.at (rangeAt_below (hs k hlt) hb.out)
          clear hs
          cases hg : gQ (I.Q k) with
          | false =>
            have hv : Hid (validB I = false) := valid_Q hlt hg
            have hg' : gReq (I.Q k).a (I.Q k).b (I.Q k).x (I.Q k).y (I.Q k).o (I.Q k).c (I.Q k).h (I.Q k).x' (I.Q k).y' (I.Q k).o' (I.Q k).c' (I.Q k).h' = false := hg
            clear hg
            go_wp2_with (go_at_call 14; refine (reqS _ _ _ _ _ _ _ _ _ _ _ _ _).mono ?_; rintro e w1 ⟨rfl, hb1⟩)
            go_ret
            exact ⟨ret_bool hv.out.symm, below_then hb.out hb1⟩
          | true =>
            have hg' : gReq (I.Q k).a (I.Q k).b (I.Q k).x (I.Q k).y (I.Q k).o (I.Q k).c (I.Q k).h (I.Q k).x' (I.Q k).y' (I.Q k).o' (I.Q k).c' (I.Q k).h' = true := hg
            have ha' : Hid (allB (k + 1) (fun i => gQ (I.Q i)) = true) := allB_succ ha.out hg
            clear hg
            go_wp2_with (go_at_call 14; refine (reqS _ _ _ _ _ _ _ _ _ _ _ _ _).mono ?_; rintro e w1 ⟨rfl, hb1⟩)
            exact ⟨⟨k + 1, by omega, by go_num, below_then hb.out hb1, blk_below hx.out hb1, ha'⟩, by simp [intOf]; omega⟩
        · have hkn : k = I.nQ := by omega
          subst hkn
          have HQ := ha
          clear ha hk
          go_wp2
          clear x0 hlt
          obtain ⟨wo, hwo⟩ : ∃ wo : World, wo = wr := ⟨_, rfl⟩
          rw [← hwo] at hb hx ⊢
          clear hwo
          go_loopw [5] (fun i wr => ∃ k : Nat, k ≤ I.nR ∧ i = .int .i64 k ∧ Hid (Below w.heap.size w wr) ∧ Hid (wr.heap[w.heap.size]? = some (.cells #[.slice a1 I.nV c1, .slice a2 I.nQ c2, .slice a3 I.nR c3] 27)) ∧ Hid (allB k (rdOk I) = true)) (fun i _ => I.nR - (intOf i).toNat)
          case atStart => exact ⟨0, Nat.zero_le _, rfl, hb, hx, rfl⟩
          case round =>
            clear hb hx
            obtain ⟨k, hk, rfl, hb, hx, ha⟩ := hrel
            have x0 := blk_cell hx.out 0
            have x1 := blk_cell hx.out 1
            have x2 := blk_cell hx.out 2
            simp only [List.getElem?_toArray, List.getElem?_cons_zero, List.getElem?_cons_succ] at x0 x1 x2
            by_cases hlt : k < I.nR
            · rcases H.out.r with hs | ⟨b, off, rfl, hs⟩
              · omega
              have HS := Hid.mk hs
              obtain ⟨e0, e1, e2⟩ := Rd.at (rangeAt_below (hs k hlt) hb.out)
              clear hs
              have k0 : (0 : Int) ≤ (k : Int) := by omega
              have k1 : (k : Int) < (I.nR : Int) := by omega
              cases hg : gR (I.R k) (nodes I) with
              | false =>
                have hv : Hid (validB I = false) := valid_R hlt (by simp [rdOk, hg])
                have hg' : gRoad (I.R k).a (I.R k).b (I.R k).t (nodes I) = false := hg
                clear hg
                go_wp2_with fail
                go_region_held3 (fun w' => w'.cell? ⟨w.heap.size, 0, none⟩ = some (.slice a1 I.nV c1) ∧ w'.cell? ⟨w.heap.size, 1, none⟩ = some (.slice a2 I.nQ c2) ∧ w'.cell? ⟨w.heap.size, 2, none⟩ = some (.slice (some ⟨b, off, none⟩) I.nR c3) ∧ w'.cell? ⟨b, off + k * 3, none⟩ = some (.int .i64 (I.R k).a) ∧ w'.cell? ⟨b, off + k * 3 + 1, none⟩ = some (.int .i64 (I.R k).b) ∧ w'.cell? ⟨b, off + k * 3 + 2, none⟩ = some (.int .i64 (I.R k).t))
                  (first | go_keep | ((repeat' constructor) <;> first | exact cell_keep hb2 (by first | assumption | (simp [*]; done)) | exact cell_keep hb1 (by first | assumption | (simp [*]; done))))
                  ((first | (go_at_call 16; refine (nodesS _ _ _ _ _ _ I _ h1 h2).mono ?_; rintro e w1 ⟨rfl, hb1⟩) | (go_at_call 15; refine (roadS _ _ _ _ _ nb.1 nb.2).mono ?_; rintro e w2 ⟨rfl, hb2⟩)))
                have HB2 := Hid.mk (below_then (below_then hb.out.drew hb1) hb2)
                have HX2 := Hid.mk (blk_below (blk_below (w := wr.drew) hx.out hb1) hb2)
                clear hb1 hb2 hb hx x0 x1 x2 e0 e1 e2
                go_wp2
                go_ret
                exact ⟨ret_bool hv.out.symm, HB2.out⟩
              | true =>
                have hg' : gRoad (I.R k).a (I.R k).b (I.R k).t (nodes I) = true := hg
                have HG := Hid.mk hg
                clear hg
                go_wp2_with fail
                go_region_held3 (fun w' => w'.cell? ⟨w.heap.size, 0, none⟩ = some (.slice a1 I.nV c1) ∧ w'.cell? ⟨w.heap.size, 1, none⟩ = some (.slice a2 I.nQ c2) ∧ w'.cell? ⟨w.heap.size, 2, none⟩ = some (.slice (some ⟨b, off, none⟩) I.nR c3) ∧ w'.cell? ⟨b, off + k * 3, none⟩ = some (.int .i64 (I.R k).a) ∧ w'.cell? ⟨b, off + k * 3 + 1, none⟩ = some (.int .i64 (I.R k).b) ∧ w'.cell? ⟨b, off + k * 3 + 2, none⟩ = some (.int .i64 (I.R k).t))
                  (first | go_keep | ((repeat' constructor) <;> first | exact cell_keep hb2 (by first | assumption | (simp [*]; done)) | exact cell_keep hb1 (by first | assumption | (simp [*]; done))))
                  ((first | (go_at_call 16; refine (nodesS _ _ _ _ _ _ I _ h1 h2).mono ?_; rintro e w1 ⟨rfl, hb1⟩) | (go_at_call 15; refine (roadS _ _ _ _ _ nb.1 nb.2).mono ?_; rintro e w2 ⟨rfl, hb2⟩)))
                have HB2 := Hid.mk (below_then (below_then hb.out.drew hb1) hb2)
                have HX2 := Hid.mk (blk_below (blk_below (w := wr.drew) hx.out hb1) hb2)
                clear hb1 hb2 hb hx x0 x1 x2 e0 e1 e2
                rcases (show k = 0 ∨ ∃ m, k = m + 1 by cases k with | zero => exact Or.inl rfl | succ m => exact Or.inr ⟨m, rfl⟩) with rfl | ⟨m, hm⟩
                · have ha' : Hid (allB (0 + 1) (rdOk I) = true) := allB_succ ha.out (by simp [rdOk, HG.out])
                  clear ha HG
                  go_wp2_with fail
                  go_quiet (fail)
                  go_wp2
                  exact ⟨⟨0 + 1, by omega, by go_num, below_drewN' HB2.out nq, HX2.out, ha'⟩, by simp [intOf]; omega⟩
                · have x2 := blk_cell HX2.out 2
                  simp only [List.getElem?_toArray, List.getElem?_cons_zero, List.getElem?_cons_succ] at x2
                  obtain ⟨e0, e1, e2⟩ := Rd.at (rangeAt_below (HS.out m (by omega)) HB2.out)
                  obtain ⟨f0, f1, f2⟩ := Rd.at (rangeAt_below (HS.out k hlt) HB2.out)
                  have m0 : (0 : Int) ≤ (m : Int) := by omega
                  have m1 : (m : Int) < (I.nR : Int) := by omega
                  have m2 : (0 : Int) < (k : Int) := by omega
                  have m4 : 0 < k := by omega
                  have m5 : decide ((0 : Int) < (k : Int)) = true := by simpa using m4
                  have m3 : IntKind.i64.wrap ((k : Int) - 1) = (m : Int) := by rw [IntKind.wrap_i64]; omega
                  have HM := Hid.mk hm
                  clear hm
                  cases hf : beforeB (I.R m) (I.R k) with
                  | false =>
                    have hv : Hid (validB I = false) := valid_R hlt (by simp [rdOk, show k - 1 = m by have := HM.out; omega, show ¬ k = 0 by have := HM.out; omega, hf])
                    go_wp2_with fail
                    go_region_held3 (fun w' => w'.cell? ⟨w.heap.size, 2, none⟩ = some (.slice (some ⟨b, off, none⟩) I.nR c3) ∧ w'.cell? ⟨b, off + m * 3, none⟩ = some (.int .i64 (I.R m).a) ∧ w'.cell? ⟨b, off + m * 3 + 1, none⟩ = some (.int .i64 (I.R m).b) ∧ w'.cell? ⟨b, off + m * 3 + 2, none⟩ = some (.int .i64 (I.R m).t) ∧ w'.cell? ⟨b, off + k * 3, none⟩ = some (.int .i64 (I.R k).a) ∧ w'.cell? ⟨b, off + k * 3 + 1, none⟩ = some (.int .i64 (I.R k).b) ∧ w'.cell? ⟨b, off + k * 3 + 2, none⟩ = some (.int .i64 (I.R k).t))
                      (first | go_keep | ((repeat' constructor) <;> exact cell_keep hb3 (by first | assumption | (simp [*]; done))))
                      ((go_at_call 17; refine (beforeS (I.R m) (I.R k) _).mono ?_; rintro e w3 ⟨rfl, hb3⟩))
                    have HB3 := Hid.mk (below_then HB2.out.drew hb3)
                    have HX3 := Hid.mk (blk_below (w := w2.drew) HX2.out hb3)
                    clear hb3 HB2 HX2 x2 e0 e1 e2 f0 f1 f2
                    go_wp2
                    go_ret
                    exact ⟨ret_bool hv.out.symm, HB3.out⟩
                  | true =>
                    have ha' : Hid (allB (k + 1) (rdOk I) = true) := allB_succ ha.out (by simp [rdOk, HG.out, show k - 1 = m by have := HM.out; omega, hf])
                    clear ha HG
                    go_wp2_with fail
                    go_region_held3 (fun w' => w'.cell? ⟨w.heap.size, 2, none⟩ = some (.slice (some ⟨b, off, none⟩) I.nR c3) ∧ w'.cell? ⟨b, off + m * 3, none⟩ = some (.int .i64 (I.R m).a) ∧ w'.cell? ⟨b, off + m * 3 + 1, none⟩ = some (.int .i64 (I.R m).b) ∧ w'.cell? ⟨b, off + m * 3 + 2, none⟩ = some (.int .i64 (I.R m).t) ∧ w'.cell? ⟨b, off + k * 3, none⟩ = some (.int .i64 (I.R k).a) ∧ w'.cell? ⟨b, off + k * 3 + 1, none⟩ = some (.int .i64 (I.R k).b) ∧ w'.cell? ⟨b, off + k * 3 + 2, none⟩ = some (.int .i64 (I.R k).t))
                      (first | go_keep | ((repeat' constructor) <;> exact cell_keep hb3 (by first | assumption | (simp [*]; done))))
                      ((go_at_call 17; refine (beforeS (I.R m) (I.R k) _).mono ?_; rintro e w3 ⟨rfl, hb3⟩))
                    have HB3 := Hid.mk (below_then HB2.out.drew hb3)
                    have HX3 := Hid.mk (blk_below (w := w2.drew) HX2.out hb3)
                    clear hb3 HB2 HX2 x2 e0 e1 e2 f0 f1 f2
                    go_wp2
                    exact ⟨⟨k + 1, by omega, by go_num, HB3, HX3, ha'⟩, by simp [intOf]; omega⟩
            · go_wp2
              go_ret
              have hkn : k = I.nR := by omega
              subst hkn
              exact ⟨ret_bool (valid_true hlen.out HV.out HQ.out ha.out).symm, hb.out⟩
end Go.Proofs.YtefkdpppcjlflaaGreatDoor.Valid
