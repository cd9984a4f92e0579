import Derived.Test.YtefkdpppcjlflaaGreatDoorIt11
import Derived.Deep.DrawnRows
import Derived.Lib.QuietBelow
import Derived.Test.YtefkdpppcjlflaaGreatDoorIt42
import Derived.Lib.AppendStr
import Derived.Deep.CutRange
namespace Go.Proofs.YtefkdpppcjlflaaGreatDoor.Valid
open Go Go.RowKit Go.Sort Go.Proofs.YtefkdpppcjlflaaGreatDoor.Mem
set_option linter.unusedVariables false
attribute [local go_sem ↓] Go.wp_at_zero Go.wp_at_succ

set_option maxHeartbeats 4000000 in
set_option maxRecDepth 100000 in
theorem roadsI (a3 : Option Addr) (c3 : Nat) (I : In) (w : World) (h : SliceAt w a3 I.nR 3 (fun i => (I.R i).cells)) (h1 : I.nV ≤ 1048576) (h2 : I.nQ ≤ 1048576) (h3 : I.nR ≤ 1048576) :
    Calls Tryz.prog 35 #[.slice a3 I.nR c3, .int .i64 (nodes I)] w fun e w' => e = .returned (.bool (allB I.nR (rdOk I))) ∧ Below w.heap.size w w' := by
  have H := Hid.mk h
  clear h
  have nb := nodes_bd I h1 h2
  go_enter Tryz.func35, Tryz.ntmps35
  go_wp2
  go_loopw [9] (fun i wr => ∃ k : Nat, k ≤ I.nR ∧ i = .int .i64 k ∧ Hid (Below w.heap.size w wr) ∧ Hid (allB k (rdOk I) = true)) (fun i _ => I.nR - (intOf i).toNat)
  case atStart => exact ⟨0, Nat.zero_le _, rfl, Below.refl _ _, rfl⟩
  case round =>
    obtain ⟨k, hk, rfl, hb, ha⟩ := hrel
    by_cases hlt : k < I.nR
    · rcases H.out with hs | ⟨b, off, rfl, hs⟩
      · omega
      have HS := Hid.mk hs
      obtain ⟨e0, e1, e2⟩ := Rd.at (rangeAt_below (hs k hlt) hb.out)
      clear hs
      have k0 : (0 : Int) ≤ (k : Int) := by omega
      have k1 : (k : Int) < (I.nR : Int) := by omega
      cases hg : gR (I.R k) (nodes I) with
      | false =>
        have hv : Hid (allB I.nR (rdOk I) = false) := allB_false hlt (by simp [rdOk, hg])
        have hg' : gRoad (I.R k).a (I.R k).b (I.R k).t (nodes I) = false := hg
        clear hg
        have hB0 : Below w.heap.size w (wr.alloc (Obj.cells #[.int .i64 (I.R k).a, .int .i64 (I.R k).b, .int .i64 (I.R k).t] 51)) := hb.out.alloc hb.out.size _
        have r0 := cell_regrown (show (wr.alloc (Obj.cells #[.int .i64 (I.R k).a, .int .i64 (I.R k).b, .int .i64 (I.R k).t] 51)).cell? ⟨wr.heap.size, 0, none⟩ = some (.int .i64 (I.R k).a) by simp)
        have r1 := cell_regrown (show (wr.alloc (Obj.cells #[.int .i64 (I.R k).a, .int .i64 (I.R k).b, .int .i64 (I.R k).t] 51)).cell? ⟨wr.heap.size, 1, none⟩ = some (.int .i64 (I.R k).b) by simp)
        have r2 := cell_regrown (show (wr.alloc (Obj.cells #[.int .i64 (I.R k).a, .int .i64 (I.R k).b, .int .i64 (I.R k).t] 51)).cell? ⟨wr.heap.size, 2, none⟩ = some (.int .i64 (I.R k).t) by simp)
        have cV : ∀ d os, Calls Tryz.prog 48 #[.agg #[.int .i64 (I.R k).a, .int .i64 (I.R k).b, .int .i64 (I.R k).t], .int .i64 (nodes I)] (grow (redrawn (wr.alloc (Obj.cells #[.int .i64 (I.R k).a, .int .i64 (I.R k).b, .int .i64 (I.R k).t] 51)) d) os) fun e w'' => e = .returned (.bool false) ∧ ∃ p : Regrown, w'' = grow (redrawn (wr.alloc (Obj.cells #[.int .i64 (I.R k).a, .int .i64 (I.R k).b, .int .i64 (I.R k).t] 51)) p.d) p.os :=
          fun d os => Calls.regrown_of (by have := roadI (I.R k).a (I.R k).b (I.R k).t (nodes I) (grow (redrawn (wr.alloc (Obj.cells #[.int .i64 (I.R k).a, .int .i64 (I.R k).b, .int .i64 (I.R k).t] 51)) d) os) nb.1 nb.2; rw [hg'] at this; exact this)
        have hb0 := hb
        clear hb
        have cC : ∀ (d : Nat) (os : Array Obj), True := fun _ _ => trivial
        go_wp2_with fail
        clear e0 e1 e2
        refine wp_region_quiet_below (by kernel_rfl) (by kernel_rfl) ?_
        repeat (first | go_big_quiet_step (first | exact cV _ _ | exact cC _ _) | quiet_step (first | exact cV _ _ | exact cC _ _))
        refine wpQuiet_nil ?_
        intro _ hw'
        obtain ⟨⟨dq, osq⟩, hw''⟩ := hw'
        subst hw''
        go_wp2
        go_ret
        exact ⟨ret_bool hv.out.symm, below_then hB0 (below_regrown _ dq osq)⟩
      | true =>
        have hg' : gRoad (I.R k).a (I.R k).b (I.R k).t (nodes I) = true := hg
        have HG := Hid.mk hg
        clear hg
        have hB0 : Below w.heap.size w (wr.alloc (Obj.cells #[.int .i64 (I.R k).a, .int .i64 (I.R k).b, .int .i64 (I.R k).t] 51)) := hb.out.alloc hb.out.size _
        have r0 := cell_regrown (show (wr.alloc (Obj.cells #[.int .i64 (I.R k).a, .int .i64 (I.R k).b, .int .i64 (I.R k).t] 51)).cell? ⟨wr.heap.size, 0, none⟩ = some (.int .i64 (I.R k).a) by simp)
        have r1 := cell_regrown (show (wr.alloc (Obj.cells #[.int .i64 (I.R k).a, .int .i64 (I.R k).b, .int .i64 (I.R k).t] 51)).cell? ⟨wr.heap.size, 1, none⟩ = some (.int .i64 (I.R k).b) by simp)
        have r2 := cell_regrown (show (wr.alloc (Obj.cells #[.int .i64 (I.R k).a, .int .i64 (I.R k).b, .int .i64 (I.R k).t] 51)).cell? ⟨wr.heap.size, 2, none⟩ = some (.int .i64 (I.R k).t) by simp)
        have cV : ∀ d os, Calls Tryz.prog 48 #[.agg #[.int .i64 (I.R k).a, .int .i64 (I.R k).b, .int .i64 (I.R k).t], .int .i64 (nodes I)] (grow (redrawn (wr.alloc (Obj.cells #[.int .i64 (I.R k).a, .int .i64 (I.R k).b, .int .i64 (I.R k).t] 51)) d) os) fun e w'' => e = .returned (.bool true) ∧ ∃ p : Regrown, w'' = grow (redrawn (wr.alloc (Obj.cells #[.int .i64 (I.R k).a, .int .i64 (I.R k).b, .int .i64 (I.R k).t] 51)) p.d) p.os :=
          fun d os => Calls.regrown_of (by have := roadI (I.R k).a (I.R k).b (I.R k).t (nodes I) (grow (redrawn (wr.alloc (Obj.cells #[.int .i64 (I.R k).a, .int .i64 (I.R k).b, .int .i64 (I.R k).t] 51)) d) os) nb.1 nb.2; rw [hg'] at this; exact this)
        have hb0 := hb
        clear hb
        rcases (show k = 0 ∨ ∃ m, k = m + 1 by cases k with | zero => exact Or.inl rfl | succ m => exact Or.inr ⟨m, rfl⟩) with hk0 | ⟨m, hm⟩
        · have cC : ∀ (d : Nat) (os : Array Obj), True := fun _ _ => trivial
          have ha' : Hid (allB (k + 1) (rdOk I) = true) := allB_succ ha.out (by unfold rdOk; rw [HG.out]; simp [hk0])
          have m4 : decide ((0 : Int) < (k : Int)) = false := by simp [hk0]
          have m5 : ¬ 0 < k := by omega
          clear ha HG hk0
          go_wp2_with fail
          clear e0 e1 e2
          refine wp_region_quiet_below (by kernel_rfl) (by kernel_rfl) ?_
          repeat (first | go_big_quiet_step (first | exact cV _ _ | exact cC _ _) | quiet_step (first | exact cV _ _ | exact cC _ _))
          refine wpQuiet_nil ?_
          intro _ hw'
          obtain ⟨⟨dq, osq⟩, hw''⟩ := hw'
          subst hw''
          go_wp2
          exact ⟨⟨k + 1, by omega, by go_num, below_then hB0 (below_regrown _ dq osq), ha'⟩, by simp [intOf]; omega⟩
        · obtain ⟨f0, f1, f2⟩ := Rd.at (rangeAt_below (HS.out m (by omega)) hB0)
          have g0 := cell_regrown f0
          have g1 := cell_regrown f1
          have g2 := cell_regrown f2
          clear f0 f1 f2
          have cC : ∀ d os, Calls Tryz.prog 49 #[.agg #[.int .i64 (I.R m).a, .int .i64 (I.R m).b, .int .i64 (I.R m).t], .agg #[.int .i64 (I.R k).a, .int .i64 (I.R k).b, .int .i64 (I.R k).t]] (grow (redrawn (wr.alloc (Obj.cells #[.int .i64 (I.R k).a, .int .i64 (I.R k).b, .int .i64 (I.R k).t] 51)) d) os) fun e w'' => e = .returned (.int .i64 (cmpR (I.R m) (I.R k))) ∧ ∃ p : Regrown, w'' = grow (redrawn (wr.alloc (Obj.cells #[.int .i64 (I.R k).a, .int .i64 (I.R k).b, .int .i64 (I.R k).t] 51)) p.d) p.os :=
            fun d os => Calls.regrown_of (compareRoads (I.R m) (I.R k) _)
          have m0 : (0 : Int) ≤ (m : Int) := by omega
          have m1 : (m : Int) < (I.nR : Int) := by omega
          have m2 : (0 : Int) < (k : Int) := by omega
          have m4 : 0 < k := by omega
          have m5 : decide ((0 : Int) < (k : Int)) = true := by simpa using m4
          have m3 : IntKind.i64.wrap ((k : Int) - 1) = (m : Int) := by rw [IntKind.wrap_i64]; omega
          have m6 : (k : Int) - 1 = (m : Int) := by omega
          have HM := Hid.mk hm
          have hcb := cmpR_before (I.R m) (I.R k)
          clear hm
          cases hf : beforeB (I.R m) (I.R k) with
          | false =>
            have hv : Hid (allB I.nR (rdOk I) = false) := allB_false hlt (by simp [rdOk, show k - 1 = m by have := HM.out; omega, show ¬ k = 0 by have := HM.out; omega, hf])
            have hc' : decide (0 ≤ cmpR (I.R m) (I.R k)) = true := by rw [hcb, hf]; rfl
            have hc2 : 0 ≤ cmpR (I.R m) (I.R k) := by simpa using hc'
            clear hcb hf ha HG
            go_wp2_with fail
            clear e0 e1 e2
            refine wp_region_quiet_below (by kernel_rfl) (by kernel_rfl) ?_
            repeat (first | go_big_quiet_step (first | exact cV _ _ | exact cC _ _) | quiet_step (first | exact cV _ _ | exact cC _ _))
            refine wpQuiet_nil ?_
            intro _ hw'
            obtain ⟨⟨dq, osq⟩, hw''⟩ := hw'
            subst hw''
            go_wp2
            go_ret
            exact ⟨ret_bool hv.out.symm, below_then hB0 (below_regrown _ dq osq)⟩
          | true =>
            have ha' : Hid (allB (k + 1) (rdOk I) = true) := allB_succ ha.out (by simp [rdOk, HG.out, show k - 1 = m by have := HM.out; omega, hf])
            have hc' : decide (0 ≤ cmpR (I.R m) (I.R k)) = false := by rw [hcb, hf]; rfl
            have hc2 : cmpR (I.R m) (I.R k) < 0 := by simpa using hc'
            clear hcb hf ha HG
            go_wp2_with fail
            clear e0 e1 e2
            refine wp_region_quiet_below (by kernel_rfl) (by kernel_rfl) ?_
            repeat (first | go_big_quiet_step (first | exact cV _ _ | exact cC _ _) | quiet_step (first | exact cV _ _ | exact cC _ _))
            refine wpQuiet_nil ?_
            intro _ hw'
            obtain ⟨⟨dq, osq⟩, hw''⟩ := hw'
            subst hw''
            go_wp2
            exact ⟨⟨k + 1, by omega, by go_num, below_then hB0 (below_regrown _ dq osq), ha'⟩, by simp [intOf]; omega⟩
    · go_wp2
      go_ret
      have hkn : k = I.nR := by omega
      subst hkn
      exact ⟨ret_bool ha.out.symm, hb.out⟩
end Go.Proofs.YtefkdpppcjlflaaGreatDoor.Valid
namespace Go.Proofs.YtefkdpppcjlflaaGreatDoor.Valid
open Go Go.RowKit Go.Sort Go.Proofs.YtefkdpppcjlflaaGreatDoor.Mem
set_option linter.unusedVariables false
attribute [local go_sem ↓] Go.wp_at_zero Go.wp_at_succ

set_option maxHeartbeats 4000000 in
set_option maxRecDepth 100000 in
theorem validI (a1 a2 a3 : Option Addr) (c1 c2 c3 : Nat) (I : In) (w : World) (h : InAt w a1 a2 a3 I) (h1 : I.nV ≤ 1048576) (h2 : I.nQ ≤ 1048576) (h3 : I.nR ≤ 1048576) :
    Calls Tryz.prog 18 #[.agg #[.slice a1 I.nV c1, .slice a2 I.nQ c2, .slice a3 I.nR c3]] w fun e w' => e = .returned (.bool (validB I)) ∧ Below w.heap.size w w' := by
  have H := Hid.mk h
  clear h
  by_cases g1 : (64 : Int) < (I.nV : Int)
  · have hv : validB I = false := valid_lens (by simp [lens]; omega)
    rw [hv]; clear hv
    go_enter Tryz.func18, Tryz.ntmps18
    go_wp2
    go_ret
    exact ⟨rfl, by go_grown⟩
  have dg1 : decide ((64 : Int) < (I.nV : Int)) = false := by simpa using g1
  by_cases g2 : (1000 : Int) < (I.nQ : Int)
  · have hv : validB I = false := valid_lens (by simp [lens]; omega)
    rw [hv]; clear hv
    go_enter Tryz.func18, Tryz.ntmps18
    go_wp2
    go_ret
    exact ⟨rfl, by go_grown⟩
  have dg2 : decide ((1000 : Int) < (I.nQ : Int)) = false := by simpa using g2
  by_cases g3 : (4000 : Int) < (I.nR : Int)
  · have hv : validB I = false := valid_lens (by simp [lens]; omega)
    rw [hv]; clear hv
    go_enter Tryz.func18, Tryz.ntmps18
    go_wp2
    go_ret
    exact ⟨rfl, by go_grown⟩
  have dg3 : decide ((4000 : Int) < (I.nR : Int)) = false := by simpa using g3
  have hlen : Hid (lens I = true) := by simp [Hid, lens]; omega
  have nb := nodes_bd I h1 h2
  go_enter Tryz.func18, Tryz.ntmps18
  go_wp2
  go_loopw [26] (fun i wr => ∃ k : Nat, k ≤ I.nV ∧ i = .int .i64 k ∧ Hid (Below w.heap.size w wr) ∧ Hid (wr.heap[w.heap.size]? = some (.cells #[.slice a1 I.nV c1, .slice a2 I.nQ c2, .slice a3 I.nR c3] 27)) ∧ Hid (allB k (fun i => gV (I.V i)) = true)) (fun i _ => I.nV - (intOf i).toNat)
  case atStart => exact ⟨0, Nat.zero_le _, rfl, (Below.refl _ _).alloc (Nat.le_refl _) _, blk_new _ _, rfl⟩
  case round =>
    obtain ⟨k, hk, rfl, hb, hx, ha⟩ := hrel
    by_cases hlt : k < I.nV
    · rcases H.out.v with hs | ⟨b, off, rfl, hs⟩
      · omega
      obtain ⟨e0, e1, e2, e3, e4, e5, e6⟩ := Veh.at (rangeAt_below (hs k hlt) hb.out)
      clear hs
      cases hg : gV (I.V k) with
      | false =>
        have hv : Hid (validB I = false) := valid_V hlt hg
        have hg' : gVeh (I.V k).a (I.V k).b (I.V k).x (I.V k).y (I.V k).o (I.V k).c (I.V k).h = false := hg
        clear hg
        go_wp2_with (go_at_call 33; refine (vehI _ _ _ _ _ _ _ _).mono ?_; rintro e w1 ⟨rfl, hb1⟩)
        go_ret
        exact ⟨ret_bool hv.out.symm, below_then (hb.out.alloc hb.out.size _) hb1⟩
      | true =>
        have hg' : gVeh (I.V k).a (I.V k).b (I.V k).x (I.V k).y (I.V k).o (I.V k).c (I.V k).h = true := hg
        have ha' : Hid (allB (k + 1) (fun i => gV (I.V i)) = true) := allB_succ ha.out hg
        clear hg
        go_wp2_with (go_at_call 33; refine (vehI _ _ _ _ _ _ _ _).mono ?_; rintro e w1 ⟨rfl, hb1⟩)
        exact ⟨⟨k + 1, by omega, by go_num, below_then (hb.out.alloc hb.out.size _) hb1, blk_below (blk_alloc hx.out _) hb1, ha'⟩, by simp [intOf]; omega⟩
    · have hkn : k = I.nV := by omega
      subst hkn
      have HV := ha
      clear ha hk
      have x1 := blk_cell hx.out 1
      simp only [List.getElem?_toArray, List.getElem?_cons_zero, List.getElem?_cons_succ] at x1
      go_wp2
      clear x1 hlt
      obtain ⟨wo, hwo⟩ : ∃ wo : World, wo = wr := ⟨_, rfl⟩
      rw [← hwo] at hb hx ⊢
      clear hwo
      go_loopw [37] (fun i wr => ∃ k : Nat, k ≤ I.nQ ∧ i = .int .i64 k ∧ Hid (Below w.heap.size w wr) ∧ Hid (wr.heap[w.heap.size]? = some (.cells #[.slice a1 I.nV c1, .slice a2 I.nQ c2, .slice a3 I.nR c3] 27)) ∧ Hid (allB k (fun i => gQ (I.Q i)) = true)) (fun i _ => I.nQ - (intOf i).toNat)
      case atStart => exact ⟨0, Nat.zero_le _, rfl, hb, hx, rfl⟩
      case round =>
        clear hb hx
        obtain ⟨k, hk, rfl, hb, hx, ha⟩ := hrel
        by_cases hlt : k < I.nQ
        · rcases H.out.q with hs | ⟨b, off, rfl, hs⟩
          · omega
          obtain ⟨e0, e1, e2, e3, e4, e5, e6, e7, e8, e9, e10, e11⟩ := Req.at (rangeAt_below (hs k hlt) hb.out)
          clear hs
          cases hg : gQ (I.Q k) with
          | false =>
            have hv : Hid (validB I = false) := valid_Q hlt hg
            have hg' : gReq (I.Q k).a (I.Q k).b (I.Q k).x (I.Q k).y (I.Q k).o (I.Q k).c (I.Q k).h (I.Q k).x' (I.Q k).y' (I.Q k).o' (I.Q k).c' (I.Q k).h' = false := hg
            clear hg
            go_wp2_with (go_at_call 34; refine (reqI _ _ _ _ _ _ _ _ _ _ _ _ _).mono ?_; rintro e w1 ⟨rfl, hb1⟩)
            go_ret
            exact ⟨ret_bool hv.out.symm, below_then (hb.out.alloc hb.out.size _) hb1⟩
          | true =>
            have hg' : gReq (I.Q k).a (I.Q k).b (I.Q k).x (I.Q k).y (I.Q k).o (I.Q k).c (I.Q k).h (I.Q k).x' (I.Q k).y' (I.Q k).o' (I.Q k).c' (I.Q k).h' = true := hg
            have ha' : Hid (allB (k + 1) (fun i => gQ (I.Q i)) = true) := allB_succ ha.out hg
            clear hg
            go_wp2_with (go_at_call 34; refine (reqI _ _ _ _ _ _ _ _ _ _ _ _ _).mono ?_; rintro e w1 ⟨rfl, hb1⟩)
            exact ⟨⟨k + 1, by omega, by go_num, below_then (hb.out.alloc hb.out.size _) hb1, blk_below (blk_alloc hx.out _) hb1, ha'⟩, by simp [intOf]; omega⟩
        · have hkn : k = I.nQ := by omega
          subst hkn
          have HQ := ha
          clear ha hk
          have x0 := blk_cell hx.out 0
          have x1 := blk_cell hx.out 1
          have x2 := blk_cell hx.out 2
          simp only [List.getElem?_toArray, List.getElem?_cons_zero, List.getElem?_cons_succ] at x0 x1 x2
          have y0 := cell_regrown x0
          have y1 := cell_regrown x1
          have y2 := cell_regrown x2
          clear x0 x1 x2
          have cV : ∀ d os, Calls Tryz.prog 36 #[.agg #[.slice a1 I.nV c1, .slice a2 I.nQ c2, .slice a3 I.nR c3]] (grow (redrawn wr d) os) fun e w'' => e = .returned (.int .i64 (nodes I)) ∧ ∃ p : Regrown, w'' = grow (redrawn wr p.d) p.os :=
            fun d os => Calls.regrown_of (nodesI a1 a2 a3 c1 c2 c3 I _ h1 h2)
          have cC : ∀ d os, Calls Tryz.prog 35 #[.slice a3 I.nR c3, .int .i64 (nodes I)] (grow (redrawn wr d) os) fun e w'' => e = .returned (.bool (allB I.nR (rdOk I))) ∧ ∃ p : Regrown, w'' = grow (redrawn wr p.d) p.os :=
            fun d os => Calls.regrown_of (roadsI a3 c3 I _ ((H.out.r.below hb.out).below (below_regrown _ d os)) h1 h2 h3)
          go_wp2_with fail
          refine wp_region_quiet_below (by kernel_rfl) (by kernel_rfl) ?_
          repeat (first | go_big_quiet_step (first | exact cV _ _ | exact cC _ _) | quiet_step (first | exact cV _ _ | exact cC _ _))
          refine wpQuiet_nil ?_
          intro _ hw'
          obtain ⟨⟨dq, osq⟩, hw''⟩ := hw'
          subst hw''
          go_wp2
          go_ret
          exact ⟨ret_bool (by simp [validB, hlen.out, HV.out, HQ.out]), below_then hb.out (below_regrown _ dq osq)⟩
end Go.Proofs.YtefkdpppcjlflaaGreatDoor.Valid
namespace Go.Proofs.YtefkdpppcjlflaaGreatDoor.Print
open Go Go.RowKit Go.Proofs.YtefkdpppcjlflaaGreatDoor.Mem Go.Proofs.YtefkdpppcjlflaaGreatDoor.Valid
set_option linter.unusedVariables false
set_option linter.unusedSimpArgs false
attribute [local go_sem ↓] Go.wp_at_zero Go.wp_at_succ

/-- A constant's bytes onto a row of the call's own, at one operation. -/
theorem wp_append_str {P : Program} {w : World} {o : Oper} {a : Act} {K : Act → World → Prop} {Q : Exit → Act → World → Prop} (sl x : Operand) (t u : TypeId)
    (ho : o.op = .call { callee := .builtin .append, args := #[sl, x], argTypes := #[t, u] })
    (base : Nat) (e : TypeId) (i : TypeInfo) (ht : P.underlying t = some (.slice e)) (hu : P.underlying u = some .string) (hi : P.info? e = some i) (hz : i.zero = some (.int .u8 0))
    (hsize : i.size = 1) (hby : i.bytes = 1)
    (v : Value) (n : Nat) (xs : List Value) (hs : a.eval sl = v) (hown : w.ownsRow base e 1 v n xs) (s : ByteArray) (hx : a.eval x = .string s)
    (h63 : n + s.size ≤ maxLen) (hbytes : n + s.size ≤ 140737488355328) (hbase : base ≤ w.heap.size)
    (h : ∀ v' w', w'.ownsRow base e 1 v' (n + s.size) (xs ++ Lib.strCells s) → w.grownBy w' v.ownBlock → K (a.put o.dst v') w') : o.wp P a w K Q := by
  obtain ⟨v', w', hr, h2, h3, h4⟩ := Lib.run_append_own_string (P := P) w base t u o.type e i ht hu hi hz hsize hby v n xs hown s h63 hbytes hbase
  unfold Oper.wp execOp
  simp only [ho, resolve, invoke, builtin, Sem.run_bind, Sem.run_pure, Result.andThen_ok, List.map_toArray, List.map_cons, List.map_nil, hs, hx, hr]
  exact h v' w' h2 h3

theorem line_veh (v : Veh) : line (vehL v) = ((([118, 101, 104, 105, 99, 108, 101] ++ nums [v.a] 1) ++ [32]) ++ tagText v.b) ++ nums [v.x, v.y, v.o, v.c, v.h] 5 ++ [10] := by
  simp [line, vehL, jn, nums]
theorem line_req (q : Req) : line (reqL q) = ((([114, 101, 113, 117, 101, 115, 116] ++ nums [q.a] 1) ++ [32]) ++ tagText q.b) ++ nums [q.x, q.y, q.o, q.c, q.h] 5 ++ nums [q.x', q.y', q.o', q.c', q.h'] 5 ++ [10] := by
  simp [line, reqL, jn, nums]
theorem line_rd (r : Rd) : line (rdL r) = [114, 111, 97, 100] ++ nums [r.a, r.b, r.t] 3 ++ [10] := by
  simp [line, rdL, jn, nums]
def answer (I : In) : List UInt8 := if validB I = true then text I else []

end Go.Proofs.YtefkdpppcjlflaaGreatDoor.Print
