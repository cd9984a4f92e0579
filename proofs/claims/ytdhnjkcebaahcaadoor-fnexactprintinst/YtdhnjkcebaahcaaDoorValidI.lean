import Derived.Test.YtdhnjkcebaahcaaDoorRoadsI
import Derived.Deep.DrawnRows
import Derived.Lib.QuietBelow
namespace Go.Proofs.YtdhnjkcebaahcaaDoor.Valid
open Go Go.RowKit Go.Sort Go.Proofs.YtdhnjkcebaahcaaDoor.Mem
set_option linter.unusedVariables false
attribute [local go_sem ↓] Go.wp_at_zero Go.wp_at_succ

set_option maxHeartbeats 4000000 in
set_option maxRecDepth 100000 in
theorem validI (a1 a2 a3 : Option Addr) (c1 c2 c3 : Nat) (I : In) (w : World) (h : InAt w a1 a2 a3 I) (h1 : I.nV ≤ 1048576) (h2 : I.nQ ≤ 1048576) (h3 : I.nR ≤ 1048576) :
    Calls Tryd.prog 36 #[.agg #[.slice a1 I.nV c1, .slice a2 I.nQ c2, .slice a3 I.nR c3]] w fun e w' => e = .returned (.bool (validB I)) ∧ Below w.heap.size w w' := by
  have H := Hid.mk h
  clear h
  by_cases g1 : (64 : Int) < (I.nV : Int)
  · have hv : validB I = false := valid_lens (by simp [lens]; omega)
    rw [hv]; clear hv
    go_enter Tryd.func36, Tryd.ntmps36
    go_wp2
    go_ret
    exact ⟨rfl, by go_grown⟩
  have dg1 : decide ((64 : Int) < (I.nV : Int)) = false := by simpa using g1
  by_cases g2 : (1000 : Int) < (I.nQ : Int)
  · have hv : validB I = false := valid_lens (by simp [lens]; omega)
    rw [hv]; clear hv
    go_enter Tryd.func36, Tryd.ntmps36
    go_wp2
    go_ret
    exact ⟨rfl, by go_grown⟩
  have dg2 : decide ((1000 : Int) < (I.nQ : Int)) = false := by simpa using g2
  by_cases g3 : (4000 : Int) < (I.nR : Int)
  · have hv : validB I = false := valid_lens (by simp [lens]; omega)
    rw [hv]; clear hv
    go_enter Tryd.func36, Tryd.ntmps36
    go_wp2
    go_ret
    exact ⟨rfl, by go_grown⟩
  have dg3 : decide ((4000 : Int) < (I.nR : Int)) = false := by simpa using g3
  have hlen : Hid (lens I = true) := by simp [Hid, lens]; omega
  have nb := nodes_bd I h1 h2
  go_enter Tryd.func36, Tryd.ntmps36
  go_wp2
  go_loopw [26] (fun i wr => ∃ k : Nat, k ≤ I.nV ∧ i = .int .i64 k ∧ Hid (Below w.heap.size w wr) ∧ Hid (wr.heap[w.heap.size]? = some (.cells #[.slice a1 I.nV c1, .slice a2 I.nQ c2, .slice a3 I.nR c3] 34)) ∧ Hid (allB k (fun i => gV (I.V i)) = true)) (fun i _ => I.nV - (intOf i).toNat)
  case atStart => exact ⟨0, Nat.zero_le _, rfl, (Below.refl _ _).alloc (Nat.le_refl _) _, blk_new _ _, rfl⟩
  case round =>
    obtain ⟨k, hk, rfl, hb, hx, ha⟩ := hrel
    by_cases hlt : k < I.nV
    · rcases H.out.v with hs | ⟨b, off, rfl, hs⟩
      · omega
      obtain ⟨e0, e1, e2, e3, e4, e5, e6⟩ := Veh.at (rangeAt_below (hs k hlt) hb.out)
      clear hs
      cases hg : gV (I.V k) with
      | false =>
        have hv : Hid (validB I = false) := valid_V hlt hg
        have hg' : gVeh (I.V k).a (I.V k).b (I.V k).x (I.V k).y (I.V k).o (I.V k).c (I.V k).h = false := hg
        clear hg
        go_wp2_with (go_at_call 74; refine (vehI _ _ _ _ _ _ _ _).mono ?_; rintro e w1 ⟨rfl, hb1⟩)
        go_ret
        exact ⟨ret_bool hv.out.symm, below_then (hb.out.alloc hb.out.size _) hb1⟩
      | true =>
        have hg' : gVeh (I.V k).a (I.V k).b (I.V k).x (I.V k).y (I.V k).o (I.V k).c (I.V k).h = true := hg
        have ha' : Hid (allB (k + 1) (fun i => gV (I.V i)) = true) := allB_succ ha.out hg
        clear hg
        go_wp2_with (go_at_call 74; refine (vehI _ _ _ _ _ _ _ _).mono ?_; rintro e w1 ⟨rfl, hb1⟩)
        exact ⟨⟨k + 1, by omega, by go_num, below_then (hb.out.alloc hb.out.size _) hb1, blk_below (blk_alloc hx.out _) hb1, ha'⟩, by simp [intOf]; omega⟩
    · have hkn : k = I.nV := by omega
      subst hkn
      have HV := ha
      clear ha hk
      have x1 := blk_cell hx.out 1
      simp only [List.getElem?_toArray, List.getElem?_cons_zero, List.getElem?_cons_succ] at x1
      go_wp2
      clear x1 hlt
      obtain ⟨wo, hwo⟩ : ∃ wo : World, wo = wr := ⟨_, rfl⟩
      rw [← hwo] at hb hx ⊢
      clear hwo
      go_loopw [37] (fun i wr => ∃ k : Nat, k ≤ I.nQ ∧ i = .int .i64 k ∧ Hid (Below w.heap.size w wr) ∧ Hid (wr.heap[w.heap.size]? = some (.cells #[.slice a1 I.nV c1, .slice a2 I.nQ c2, .slice a3 I.nR c3] 34)) ∧ Hid (allB k (fun i => gQ (I.Q i)) = true)) (fun i _ => I.nQ - (intOf i).toNat)
      case atStart => exact ⟨0, Nat.zero_le _, rfl, hb, hx, rfl⟩
      case round =>
        clear hb hx
        obtain ⟨k, hk, rfl, hb, hx, ha⟩ := hrel
        by_cases hlt : k < I.nQ
        · rcases H.out.q with hs | ⟨b, off, rfl, hs⟩
          · omega
          obtain ⟨e0, e1, e2, e3, e4, e5, e6, e7, e8, e9, e10, e11⟩ := Req.at (rangeAt_below (hs k hlt) hb.out)
          clear hs
          cases hg : gQ (I.Q k) with
          | false =>
            have hv : Hid (validB I = false) := valid_Q hlt hg
            have hg' : gReq (I.Q k).a (I.Q k).b (I.Q k).x (I.Q k).y (I.Q k).o (I.Q k).c (I.Q k).h (I.Q k).x' (I.Q k).y' (I.Q k).o' (I.Q k).c' (I.Q k).h' = false := hg
            clear hg
            go_wp2_with (go_at_call 75; refine (reqI _ _ _ _ _ _ _ _ _ _ _ _ _).mono ?_; rintro e w1 ⟨rfl, hb1⟩)
            go_ret
            exact ⟨ret_bool hv.out.symm, below_then (hb.out.alloc hb.out.size _) hb1⟩
          | true =>
            have hg' : gReq (I.Q k).a (I.Q k).b (I.Q k).x (I.Q k).y (I.Q k).o (I.Q k).c (I.Q k).h (I.Q k).x' (I.Q k).y' (I.Q k).o' (I.Q k).c' (I.Q k).h' = true := hg
            have ha' : Hid (allB (k + 1) (fun i => gQ (I.Q i)) = true) := allB_succ ha.out hg
            clear hg
            go_wp2_with (go_at_call 75; refine (reqI _ _ _ _ _ _ _ _ _ _ _ _ _).mono ?_; rintro e w1 ⟨rfl, hb1⟩)
            exact ⟨⟨k + 1, by omega, by go_num, below_then (hb.out.alloc hb.out.size _) hb1, blk_below (blk_alloc hx.out _) hb1, ha'⟩, by simp [intOf]; omega⟩
        · have hkn : k = I.nQ := by omega
          subst hkn
          have HQ := ha
          clear ha hk
          have x0 := blk_cell hx.out 0
          have x1 := blk_cell hx.out 1
          have x2 := blk_cell hx.out 2
          simp only [List.getElem?_toArray, List.getElem?_cons_zero, List.getElem?_cons_succ] at x0 x1 x2
          have y0 := cell_regrown x0
          have y1 := cell_regrown x1
          have y2 := cell_regrown x2
          clear x0 x1 x2
          have cV : ∀ d os, Calls Tryd.prog 77 #[.agg #[.slice a1 I.nV c1, .slice a2 I.nQ c2, .slice a3 I.nR c3]] (grow (redrawn wr d) os) fun e w'' => e = .returned (.int .i64 (nodes I)) ∧ ∃ p : Regrown, w'' = grow (redrawn wr p.d) p.os :=
            fun d os => Calls.regrown_of (nodesI a1 a2 a3 c1 c2 c3 I _ h1 h2)
          have cC : ∀ d os, Calls Tryd.prog 76 #[.slice a3 I.nR c3, .int .i64 (nodes I)] (grow (redrawn wr d) os) fun e w'' => e = .returned (.bool (allB I.nR (rdOk I))) ∧ ∃ p : Regrown, w'' = grow (redrawn wr p.d) p.os :=
            fun d os => Calls.regrown_of (roadsI a3 c3 I _ ((H.out.r.below hb.out).below (below_regrown _ d os)) h1 h2 h3)
          go_wp2_with fail
          refine wp_region_quiet_below (by kernel_rfl) (by kernel_rfl) ?_
          repeat (first | go_big_quiet_step (first | exact cV _ _ | exact cC _ _) | quiet_step (first | exact cV _ _ | exact cC _ _))
          refine wpQuiet_nil ?_
          intro _ hw'
          obtain ⟨⟨dq, osq⟩, hw''⟩ := hw'
          subst hw''
          go_wp2
          go_ret
          exact ⟨ret_bool (by simp [validB, hlen.out, HV.out, HQ.out]), below_then hb.out (below_regrown _ dq osq)⟩
end Go.Proofs.YtdhnjkcebaahcaaDoor.Valid
