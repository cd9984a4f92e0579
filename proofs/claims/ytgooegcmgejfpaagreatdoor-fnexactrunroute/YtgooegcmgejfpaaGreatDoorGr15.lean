import Derived.Test.YtgooegcmgejfpaaGreatDoorGr13
import Derived.Deep.DrawnRows
import Derived.Test.YtgooegcmgejfpaaGreatDoorGr07
import Derived.Lib.QuietBelow
import Derived.Test.YtgooegcmgejfpaaGreatDoorGr14
import Derived.Test.YtgooegcmgejfpaaGreatDoorGr05
namespace Go.Proofs.YtgooegcmgejfpaaGreatDoor.Valid
open Go Go.RowKit Go.Proofs.YtgooegcmgejfpaaGreatDoor.Mem
set_option linter.unusedVariables false
attribute [local go_sem ↓] Go.wp_at_zero Go.wp_at_succ

set_option maxHeartbeats 4000000 in
set_option maxRecDepth 100000 in
theorem validS (a1 a2 a3 : Option Addr) (c1 c2 c3 : Nat) (I : In) (w : World) (h : InAt w a1 a2 a3 I) (h1 : I.nV ≤ 1048576) (h2 : I.nQ ≤ 1048576) (h3 : I.nR ≤ 1048576) :
    Calls Tryz.prog 36 #[.agg #[.slice a1 I.nV c1, .slice a2 I.nQ c2, .slice a3 I.nR c3]] w fun e w' => e = .returned (.bool (validB I)) ∧ Below w.heap.size w w' := by
  have H := Hid.mk h
  clear h
  by_cases g1 : (64 : Int) < (I.nV : Int)
  · have hv : validB I = false := valid_lens (by simp [lens]; omega)
    rw [hv]; clear hv
    go_enter Tryz.func36, Tryz.ntmps36
    go_wp2
    go_ret
    exact ⟨rfl, by go_grown⟩
  have d1 : decide ((64 : Int) < (I.nV : Int)) = false := by simpa using g1
  by_cases g2 : (1000 : Int) < (I.nQ : Int)
  · have hv : validB I = false := valid_lens (by simp [lens]; omega)
    rw [hv]; clear hv
    go_enter Tryz.func36, Tryz.ntmps36
    go_wp2
    go_ret
    exact ⟨rfl, by go_grown⟩
  have d2 : decide ((1000 : Int) < (I.nQ : Int)) = false := by simpa using g2
  by_cases g3 : (4000 : Int) < (I.nR : Int)
  · have hv : validB I = false := valid_lens (by simp [lens]; omega)
    rw [hv]; clear hv
    go_enter Tryz.func36, Tryz.ntmps36
    go_wp2
    go_ret
    exact ⟨rfl, by go_grown⟩
  have d3 : decide ((4000 : Int) < (I.nR : Int)) = false := by simpa using g3
  have hlen : Hid (lens I = true) := by simp [Hid, lens]; omega
  have nb := nodes_bd I h1 h2
  go_enter Tryz.func36, Tryz.ntmps36
  go_wp2
  go_loopw [3] (fun i wr => ∃ k : Nat, k ≤ I.nV ∧ i = .int .i64 k ∧ Hid (Below w.heap.size w wr) ∧ Hid (wr.heap[w.heap.size]? = some (.cells #[.slice a1 I.nV c1, .slice a2 I.nQ c2, .slice a3 I.nR c3] 44)) ∧ Hid (allB k (fun i => gV (I.V i)) = true)) (fun i _ => I.nV - (intOf i).toNat)
  case atStart => exact ⟨0, Nat.zero_le _, rfl, (Below.refl _ _).alloc (Nat.le_refl _) _, blk_new _ _, rfl⟩
  case round =>
    obtain ⟨k, hk, rfl, hb, hx, ha⟩ := hrel
    have x0 := blk_cell hx.out 0
    simp only [List.getElem?_toArray, List.getElem?_cons_zero] at x0
    by_cases hlt : k < I.nV
    · rcases H.out.v with hs | ⟨b, off, rfl, hs⟩
      · omega
      obtain ⟨e0, e1, e2, e3, e4, e5, e6⟩ := Veh.at (rangeAt_below (hs k hlt) hb.out)
      clear hs
      cases hg : gV (I.V k) with
      | false =>
        have hv : Hid (validB I = false) := valid_V hlt hg
        have hg' : gVeh (I.V k).a (I.V k).b (I.V k).x (I.V k).y (I.V k).o (I.V k).c (I.V k).h = false := hg
        clear hg
        go_wp2_with (go_at_call 82; refine (vehS _ _ _ _ _ _ _ _).mono ?_; rintro e w1 ⟨rfl, hb1⟩)
        go_ret
        exact ⟨ret_bool hv.out.symm, below_then hb.out hb1⟩
      | true =>
        have hg' : gVeh (I.V k).a (I.V k).b (I.V k).x (I.V k).y (I.V k).o (I.V k).c (I.V k).h = true := hg
        have ha' : Hid (allB (k + 1) (fun i => gV (I.V i)) = true) := allB_succ ha.out hg
        clear hg
        go_wp2_with (go_at_call 82; refine (vehS _ _ _ _ _ _ _ _).mono ?_; rintro e w1 ⟨rfl, hb1⟩)
        exact ⟨⟨k + 1, by omega, by go_num, below_then hb.out hb1, blk_below hx.out hb1, ha'⟩, by simp [intOf]; omega⟩
    · have hkn : k = I.nV := by omega
      subst hkn
      have HV := ha
      clear ha hk
      go_wp2
      clear x0 hlt
      obtain ⟨wo, hwo⟩ : ∃ wo : World, wo = wr := ⟨_, rfl⟩
      rw [← hwo] at hb hx ⊢
      clear hwo
      go_loopw [4] (fun i wr => ∃ k : Nat, k ≤ I.nQ ∧ i = .int .i64 k ∧ Hid (Below w.heap.size w wr) ∧ Hid (wr.heap[w.heap.size]? = some (.cells #[.slice a1 I.nV c1, .slice a2 I.nQ c2, .slice a3 I.nR c3] 44)) ∧ Hid (allB k (fun i => gQ (I.Q i)) = true)) (fun i _ => I.nQ - (intOf i).toNat)
      case atStart => exact ⟨0, Nat.zero_le _, rfl, hb, hx, rfl⟩
      case round =>
        clear hb hx
        obtain ⟨k, hk, rfl, hb, hx, ha⟩ := hrel
        have x0 := blk_cell hx.out 1
        simp only [List.getElem?_toArray, List.getElem?_cons_zero, List.getElem?_cons_succ] at x0
        by_cases hlt : k < I.nQ
        · rcases H.out.q with hs | ⟨b, off, rfl, hs⟩
          · omega
          obtain ⟨e0, e1, e2, e3, e4, e5, e6, e7, e8, e9, e10, e11⟩ := Req.at (rangeAt_below (hs k hlt) hb.out)
          clear hs
          cases hg : gQ (I.Q k) with
          | false =>
            have hv : Hid (validB I = false) := valid_Q hlt hg
            have hg' : gReq (I.Q k).a (I.Q k).b (I.Q k).x (I.Q k).y (I.Q k).o (I.Q k).c (I.Q k).h (I.Q k).x' (I.Q k).y' (I.Q k).o' (I.Q k).c' (I.Q k).h' = false := hg
            clear hg
            go_wp2_with (go_at_call 83; refine (reqS _ _ _ _ _ _ _ _ _ _ _ _ _).mono ?_; rintro e w1 ⟨rfl, hb1⟩)
            go_ret
            exact ⟨ret_bool hv.out.symm, below_then hb.out hb1⟩
          | true =>
            have hg' : gReq (I.Q k).a (I.Q k).b (I.Q k).x (I.Q k).y (I.Q k).o (I.Q k).c (I.Q k).h (I.Q k).x' (I.Q k).y' (I.Q k).o' (I.Q k).c' (I.Q k).h' = true := hg
            have ha' : Hid (allB (k + 1) (fun i => gQ (I.Q i)) = true) := allB_succ ha.out hg
            clear hg
            go_wp2_with (go_at_call 83; refine (reqS _ _ _ _ _ _ _ _ _ _ _ _ _).mono ?_; rintro e w1 ⟨rfl, hb1⟩)
            exact ⟨⟨k + 1, by omega, by go_num, below_then hb.out hb1, blk_below hx.out hb1, ha'⟩, by simp [intOf]; omega⟩
        · have hkn : k = I.nQ := by omega
          subst hkn
          have HQ := ha
          clear ha hk
          go_wp2
          clear x0 hlt
          obtain ⟨wo, hwo⟩ : ∃ wo : World, wo = wr := ⟨_, rfl⟩
          rw [← hwo] at hb hx ⊢
          clear hwo
          go_loopw [5] (fun i wr => ∃ k : Nat, k ≤ I.nR ∧ i = .int .i64 k ∧ Hid (Below w.heap.size w wr) ∧ Hid (wr.heap[w.heap.size]? = some (.cells #[.slice a1 I.nV c1, .slice a2 I.nQ c2, .slice a3 I.nR c3] 44)) ∧ Hid (allB k (rdOk I) = true)) (fun i _ => I.nR - (intOf i).toNat)
          case atStart => exact ⟨0, Nat.zero_le _, rfl, hb, hx, rfl⟩
          case round =>
            clear hb hx
            obtain ⟨k, hk, rfl, hb, hx, ha⟩ := hrel
            have x0 := blk_cell hx.out 0
            have x1 := blk_cell hx.out 1
            have x2 := blk_cell hx.out 2
            simp only [List.getElem?_toArray, List.getElem?_cons_zero, List.getElem?_cons_succ] at x0 x1 x2
            by_cases hlt : k < I.nR
            · rcases H.out.r with hs | ⟨b, off, rfl, hs⟩
              · omega
              have HS := Hid.mk hs
              obtain ⟨e0, e1, e2⟩ := Rd.at (rangeAt_below (hs k hlt) hb.out)
              clear hs
              have k0 : (0 : Int) ≤ (k : Int) := by omega
              have k1 : (k : Int) < (I.nR : Int) := by omega
              cases hg : gR (I.R k) (nodes I) with
              | false =>
                have hv : Hid (validB I = false) := valid_R hlt (by simp [rdOk, hg])
                have hg' : gRoad (I.R k).a (I.R k).b (I.R k).t (nodes I) = false := hg
                clear hg
                go_wp2_with fail
                go_region_held3 (fun w' => w'.cell? ⟨w.heap.size, 0, none⟩ = some (.slice a1 I.nV c1) ∧ w'.cell? ⟨w.heap.size, 1, none⟩ = some (.slice a2 I.nQ c2) ∧ w'.cell? ⟨w.heap.size, 2, none⟩ = some (.slice (some ⟨b, off, none⟩) I.nR c3) ∧ w'.cell? ⟨b, off + k * 3, none⟩ = some (.int .i64 (I.R k).a) ∧ w'.cell? ⟨b, off + k * 3 + 1, none⟩ = some (.int .i64 (I.R k).b) ∧ w'.cell? ⟨b, off + k * 3 + 2, none⟩ = some (.int .i64 (I.R k).t))
                  (first | go_keep | ((repeat' constructor) <;> first | exact cell_keep hb2 (by first | assumption | (simp [*]; done)) | exact cell_keep hb1 (by first | assumption | (simp [*]; done))))
                  ((first | (go_at_call 85; refine (nodesS _ _ _ _ _ _ I _ h1 h2).mono ?_; rintro e w1 ⟨rfl, hb1⟩) | (go_at_call 84; refine (roadS _ _ _ _ _ nb.1 nb.2).mono ?_; rintro e w2 ⟨rfl, hb2⟩)))
                have HB2 := Hid.mk (below_then (below_then hb.out.drew hb1) hb2)
                have HX2 := Hid.mk (blk_below (blk_below (w := wr.drew) hx.out hb1) hb2)
                clear hb1 hb2 hb hx x0 x1 x2 e0 e1 e2
                go_wp2
                go_ret
                exact ⟨ret_bool hv.out.symm, HB2.out⟩
              | true =>
                have hg' : gRoad (I.R k).a (I.R k).b (I.R k).t (nodes I) = true := hg
                have HG := Hid.mk hg
                clear hg
                go_wp2_with fail
                go_region_held3 (fun w' => w'.cell? ⟨w.heap.size, 0, none⟩ = some (.slice a1 I.nV c1) ∧ w'.cell? ⟨w.heap.size, 1, none⟩ = some (.slice a2 I.nQ c2) ∧ w'.cell? ⟨w.heap.size, 2, none⟩ = some (.slice (some ⟨b, off, none⟩) I.nR c3) ∧ w'.cell? ⟨b, off + k * 3, none⟩ = some (.int .i64 (I.R k).a) ∧ w'.cell? ⟨b, off + k * 3 + 1, none⟩ = some (.int .i64 (I.R k).b) ∧ w'.cell? ⟨b, off + k * 3 + 2, none⟩ = some (.int .i64 (I.R k).t))
                  (first | go_keep | ((repeat' constructor) <;> first | exact cell_keep hb2 (by first | assumption | (simp [*]; done)) | exact cell_keep hb1 (by first | assumption | (simp [*]; done))))
                  ((first | (go_at_call 85; refine (nodesS _ _ _ _ _ _ I _ h1 h2).mono ?_; rintro e w1 ⟨rfl, hb1⟩) | (go_at_call 84; refine (roadS _ _ _ _ _ nb.1 nb.2).mono ?_; rintro e w2 ⟨rfl, hb2⟩)))
                have HB2 := Hid.mk (below_then (below_then hb.out.drew hb1) hb2)
                have HX2 := Hid.mk (blk_below (blk_below (w := wr.drew) hx.out hb1) hb2)
                clear hb1 hb2 hb hx x0 x1 x2 e0 e1 e2
                rcases (show k = 0 ∨ ∃ m, k = m + 1 by cases k with | zero => exact Or.inl rfl | succ m => exact Or.inr ⟨m, rfl⟩) with rfl | ⟨m, hm⟩
                · have ha' : Hid (allB (0 + 1) (rdOk I) = true) := allB_succ ha.out (by simp [rdOk, HG.out])
                  clear ha HG
                  go_wp2_with fail
                  go_quiet (fail)
                  go_wp2
                  exact ⟨⟨0 + 1, by omega, by go_num, below_drewN' HB2.out nq, HX2.out, ha'⟩, by simp [intOf]; omega⟩
                · have x2 := blk_cell HX2.out 2
                  simp only [List.getElem?_toArray, List.getElem?_cons_zero, List.getElem?_cons_succ] at x2
                  obtain ⟨e0, e1, e2⟩ := Rd.at (rangeAt_below (HS.out m (by omega)) HB2.out)
                  obtain ⟨f0, f1, f2⟩ := Rd.at (rangeAt_below (HS.out k hlt) HB2.out)
                  have m0 : (0 : Int) ≤ (m : Int) := by omega
                  have m1 : (m : Int) < (I.nR : Int) := by omega
                  have m2 : (0 : Int) < (k : Int) := by omega
                  have m4 : 0 < k := by omega
                  have m5 : decide ((0 : Int) < (k : Int)) = true := by simpa using m4
                  have m3 : IntKind.i64.wrap ((k : Int) - 1) = (m : Int) := by rw [IntKind.wrap_i64]; omega
                  have HM := Hid.mk hm
                  clear hm
                  cases hf : beforeB (I.R m) (I.R k) with
                  | false =>
                    have hv : Hid (validB I = false) := valid_R hlt (by simp [rdOk, show k - 1 = m by have := HM.out; omega, show ¬ k = 0 by have := HM.out; omega, hf])
                    go_wp2_with fail
                    go_region_held3 (fun w' => w'.cell? ⟨w.heap.size, 2, none⟩ = some (.slice (some ⟨b, off, none⟩) I.nR c3) ∧ w'.cell? ⟨b, off + m * 3, none⟩ = some (.int .i64 (I.R m).a) ∧ w'.cell? ⟨b, off + m * 3 + 1, none⟩ = some (.int .i64 (I.R m).b) ∧ w'.cell? ⟨b, off + m * 3 + 2, none⟩ = some (.int .i64 (I.R m).t) ∧ w'.cell? ⟨b, off + k * 3, none⟩ = some (.int .i64 (I.R k).a) ∧ w'.cell? ⟨b, off + k * 3 + 1, none⟩ = some (.int .i64 (I.R k).b) ∧ w'.cell? ⟨b, off + k * 3 + 2, none⟩ = some (.int .i64 (I.R k).t))
                      (first | go_keep | ((repeat' constructor) <;> exact cell_keep hb3 (by first | assumption | (simp [*]; done))))
                      ((go_at_call 86; refine (beforeS (I.R m) (I.R k) _).mono ?_; rintro e w3 ⟨rfl, hb3⟩))
                    have HB3 := Hid.mk (below_then HB2.out.drew hb3)
                    have HX3 := Hid.mk (blk_below (w := w2.drew) HX2.out hb3)
                    clear hb3 HB2 HX2 x2 e0 e1 e2 f0 f1 f2
                    go_wp2
                    go_ret
                    exact ⟨ret_bool hv.out.symm, HB3.out⟩
                  | true =>
                    have ha' : Hid (allB (k + 1) (rdOk I) = true) := allB_succ ha.out (by simp [rdOk, HG.out, show k - 1 = m by have := HM.out; omega, hf])
                    clear ha HG
                    go_wp2_with fail
                    go_region_held3 (fun w' => w'.cell? ⟨w.heap.size, 2, none⟩ = some (.slice (some ⟨b, off, none⟩) I.nR c3) ∧ w'.cell? ⟨b, off + m * 3, none⟩ = some (.int .i64 (I.R m).a) ∧ w'.cell? ⟨b, off + m * 3 + 1, none⟩ = some (.int .i64 (I.R m).b) ∧ w'.cell? ⟨b, off + m * 3 + 2, none⟩ = some (.int .i64 (I.R m).t) ∧ w'.cell? ⟨b, off + k * 3, none⟩ = some (.int .i64 (I.R k).a) ∧ w'.cell? ⟨b, off + k * 3 + 1, none⟩ = some (.int .i64 (I.R k).b) ∧ w'.cell? ⟨b, off + k * 3 + 2, none⟩ = some (.int .i64 (I.R k).t))
                      (first | go_keep | ((repeat' constructor) <;> exact cell_keep hb3 (by first | assumption | (simp [*]; done))))
                      ((go_at_call 86; refine (beforeS (I.R m) (I.R k) _).mono ?_; rintro e w3 ⟨rfl, hb3⟩))
                    have HB3 := Hid.mk (below_then HB2.out.drew hb3)
                    have HX3 := Hid.mk (blk_below (w := w2.drew) HX2.out hb3)
                    clear hb3 HB2 HX2 x2 e0 e1 e2 f0 f1 f2
                    go_wp2
                    exact ⟨⟨k + 1, by omega, by go_num, HB3, HX3, ha'⟩, by simp [intOf]; omega⟩
            · go_wp2
              go_ret
              have hkn : k = I.nR := by omega
              subst hkn
              exact ⟨ret_bool (valid_true hlen.out HV.out HQ.out ha.out).symm, hb.out⟩
end Go.Proofs.YtgooegcmgejfpaaGreatDoor.Valid
namespace Go.Proofs.YtgooegcmgejfpaaGreatDoor.ValC
open Go Go.RowKit Go.Sort Go.Proofs.YtgooegcmgejfpaaGreatDoor.Mem
set_option linter.unusedVariables false
attribute [local go_sem ↓] Go.wp_at_zero Go.wp_at_succ

theorem inI (x lo hi : Int) (w : World) : Calls Tryz.prog 102 #[.int .i64 x, .int .i64 lo, .int .i64 hi] w fun e w' => e = .returned (.bool (inB x lo hi)) ∧ w' = w := by
  by_cases h1 : lo ≤ x
  · go_enter Tryz.func102, Tryz.ntmps102
    go_wp2
    go_ret
    exact ⟨ret_bool (by simp [inB, h1]), rfl⟩
  · have hd : decide (lo ≤ x) = false := by simpa using h1
    go_enter Tryz.func102, Tryz.ntmps102
    go_wp2
    go_ret
    exact ⟨ret_bool (by simp [inB]; omega), rfl⟩

set_option maxHeartbeats 1600000 in
theorem takesFieldI (R S k n u x : Int) (w : World) (hR0 : 13 ≤ R) (hR1 : R ≤ 1000) (hS0 : 0 ≤ S) (hS1 : S ≤ 100) (hk0 : 0 ≤ k) (hk1 : k ≤ 1048576) (u0 : 0 ≤ u) (u1 : u ≤ 7) :
    Calls Tryz.prog 172 #[.agg #[.int .i64 R, .int .i64 S, .int .i64 k, .int .i64 n], .int .i64 x, .int .i64 u] w fun e w' => e = .returned (.bool (tf R S k n u x)) ∧ Below w.heap.size w w' := by
  have : u = 0 ∨ u = 1 ∨ u = 2 ∨ u = 3 ∨ u = 4 ∨ u = 5 ∨ u = 6 ∨ u = 7 := by omega
  clear u0 u1
  rcases this with rfl | rfl | rfl | rfl | rfl | rfl | rfl | rfl
  all_goals
    go_enter Tryz.func172, Tryz.ntmps172
    go_wp2_with (go_at_call 102; refine (inI _ _ _ _).mono ?_; rintro e w' ⟨rfl, rfl⟩)
    go_ret
    exact ⟨ret_bool (by simp [tf]), by go_grown⟩

/-- The table of the fields' uses. -/
def TabC (w : World) : Prop := ∀ m, m < 21 → w.cell? ⟨0, m * 3, none⟩ = some (.int .i64 (sh m).1) ∧ w.cell? ⟨0, m * 3 + 1, none⟩ = some (.int .i64 (sh m).2.1) ∧ w.cell? ⟨0, m * 3 + 2, none⟩ = some (.int .i64 (sh m).2.2)
theorem TabC.below {w w' : World} (h : TabC w) (hb : Below w.heap.size w w') : TabC w' := fun m hm => ⟨cell_keep hb (h m hm).1, cell_keep hb (h m hm).2.1, cell_keep hb (h m hm).2.2⟩

set_option maxHeartbeats 1600000 in
theorem takesI (R S k n p a b c : Int) (w : World) (hT : TabC w) (hR0 : 13 ≤ R) (hR1 : R ≤ 1000) (hS0 : 0 ≤ S) (hS1 : S ≤ 100) (hk0 : 0 ≤ k) (hk1 : k ≤ 1048576) :
    Calls Tryz.prog 134 #[.agg #[.int .i64 R, .int .i64 S, .int .i64 k, .int .i64 n], .agg #[.int .i64 p, .int .i64 a, .int .i64 b, .int .i64 c]] w fun e w' => e = .returned (.bool (okI R S k n ⟨p, a, b, c⟩)) ∧ Below w.heap.size w w' := by
  cases hp : inB p 1 20 with
  | false =>
    go_enter Tryz.func134, Tryz.ntmps134
    go_wp2_with (go_at_call 102; refine (inI _ _ _ _).mono ?_; rintro e w' ⟨rfl, rfl⟩)
    go_ret
    exact ⟨ret_bool (by simp [okI, hp]), by go_grown⟩
  | true =>
    obtain ⟨m, rfl⟩ : ∃ m : Nat, p = (m : Int) := ⟨p.toNat, by simp [inB] at hp; omega⟩
    have m0 : m < 21 := by simp [inB] at hp; omega
    obtain ⟨t0, t1, t2⟩ := hT m m0
    have g5 := lt_of_cell t0
    clear hT
    have i0 : (0 : Int) ≤ (m : Int) := by omega
    have i1 : (m : Int) < 21 := by omega
    go_enter Tryz.func134, Tryz.ntmps134
    obtain ⟨s0, s1, s2, s3, s4, s5⟩ := sh_bd m m0
    go_wp2_with (first | (go_at_call 102; refine (inI _ _ _ _).mono ?_; rintro e w' ⟨rfl, rfl⟩) | (go_at_call 172; refine (takesFieldI _ _ _ _ _ _ _ hR0 hR1 hS0 hS1 hk0 hk1 (by assumption) (by assumption)).mono ?_; rintro e w1 ⟨rfl, hb⟩; have hk := below_then (w := ((w.alloc (Obj.cells #[.int .i64 R, .int .i64 S, .int .i64 k, .int .i64 n] 174)).alloc (Obj.cells #[.int .i64 m, .int .i64 a, .int .i64 b, .int .i64 c] 133)).alloc (Obj.cells #[.int .i64 (sh m).1, .int .i64 (sh m).2.1, .int .i64 (sh m).2.2] 188)) (by first | assumption | exact Below.refl _ _) hb; have hq := bcell hk; obtain ⟨hc, hf⟩ := hq; clear hb; try simp only [World.size_alloc] at hc hf))
    all_goals (go_ret; refine ⟨ret_bool ?_, ?_⟩)
    all_goals first | exact below_then (by go_grown) hk | (simp [okI, *]; done)

theorem blk_false {R S : Int} {n k : Nat} {B : Nat → Is} (hk : k < n) (h : okI R S k n (B k) = false) : okBlk R S n B = false := by
  simp [okBlk, allB_false (f := fun i => okI R S i n (B i)) hk h]

set_option maxHeartbeats 4000000 in
set_option maxRecDepth 100000 in
theorem blockI (C : Co) (a1 a2 a3 : Option Addr) (c1 c2 c3 : Nat) (a : Option Addr) (n cap : Nat) (B : Nat → Is) (w : World) (hs : SliceAt w a n 4 (fun i => (B i).cells)) (hn : n ≤ 1048576) (hT : TabC w) (hR0 : 13 ≤ C.R) (hR1 : C.R ≤ 1000) (hS0 : 0 ≤ C.S) (hS1 : C.S ≤ 100) :
    Calls Tryz.prog 103 #[.agg #[.int .i64 C.R, .int .i64 C.S, .slice a1 C.n1 c1, .slice a2 C.n2 c2, .slice a3 C.n3 c3], .slice a n cap] w fun e w' => e = .returned (.bool (okBlk C.R C.S n B)) ∧ Below w.heap.size w w' := by
  have H := Hid.mk hs
  have HT := Hid.mk hT
  clear hs hT
  by_cases g1 : (16384 : Int) < (n : Int)
  · have hv : okBlk C.R C.S n B = false := by simp [okBlk]; omega
    rw [hv]; clear hv
    go_enter Tryz.func103, Tryz.ntmps103
    go_wp2
    go_ret
    exact ⟨rfl, by go_grown⟩
  have d1 : decide ((16384 : Int) < (n : Int)) = false := by simpa using g1
  go_enter Tryz.func103, Tryz.ntmps103
  go_wp2
  go_loopw [20] (fun i wr => ∃ k : Nat, k ≤ n ∧ i = .int .i64 k ∧ Hid (Below w.heap.size w wr) ∧ Hid (∃ x : Int, wr.heap[w.heap.size + 1]? = some (.cells #[.int .i64 C.R, .int .i64 C.S, .int .i64 x, .int .i64 n] 174)) ∧ Hid (allB k (fun i => okI C.R C.S i n (B i)) = true)) (fun i _ => n - (intOf i).toNat)
  case atStart => exact ⟨0, Nat.zero_le _, rfl, by unfold Hid; go_grown, ⟨0, blk_new1 _ _ _⟩, rfl⟩
  case round =>
    obtain ⟨k, hk, rfl, hb, ⟨x, hx⟩, ha⟩ := hrel
    by_cases hlt : k < n
    · rcases H.out with hs | ⟨b, off, rfl, hs⟩
      · omega
      obtain ⟨e0, e1, e2, e3⟩ := Is.at (rangeAt_below (hs k hlt) hb.out)
      clear hs
      have k0 : (0 : Int) ≤ (k : Int) := by omega
      have k1 : (k : Int) < (n : Int) := by omega
      have HX := Hid.mk hx
      clear hx
      have z := blk_lt HX.out
      have x0 := blk_cell HX.out 0
      have x1 := blk_cell HX.out 1
      have x2 := blk_cell HX.out 2
      have x3 := blk_cell HX.out 3
      have y2 := blk_unfrozen HX.out 2
      simp only [List.getElem?_toArray, List.getElem?_cons_zero, List.getElem?_cons_succ] at x0 x1 x2 x3
      go_wp2_with fail
      clear e0 e1 e2 e3 x0 x1 x2 x3 y2
      have hB0 := Hid.mk (below_alloc' (below_set hb.out ⟨w.heap.size + 1, 2, none⟩ (show w.heap.size ≤ w.heap.size + 1 by omega) (.int .i64 (k : Int))) (.cells #[.int .i64 (B k).p, .int .i64 (B k).a, .int .i64 (B k).b, .int .i64 (B k).c] 133))
      refine (takesI C.R C.S k n (B k).p (B k).a (B k).b (B k).c _ (HT.out.below hB0.out) hR0 hR1 hS0 hS1 k0 (by omega)).mono ?_
      rintro e w1 ⟨rfl, hb1⟩
      have hx1 := blk_below (blk_alloc (blk_set HX.out 2 (.int .i64 (k : Int))) (.cells #[.int .i64 (B k).p, .int .i64 (B k).a, .int .i64 (B k).b, .int .i64 (B k).c] 133)) hb1
      have hb2 := Hid.mk (below_then hB0.out hb1)
      have HX1 : Hid (∃ x : Int, w1.heap[w.heap.size + 1]? = some (.cells #[.int .i64 C.R, .int .i64 C.S, .int .i64 x, .int .i64 n] 174)) := ⟨k, hx1⟩
      clear hb1 hx1 hB0 HX hb
      cases hg : okI C.R C.S k n (B k) with
      | false =>
        have hv : Hid (okBlk C.R C.S n B = false) := blk_false hlt hg
        have hg' : okI C.R C.S k n ⟨(B k).p, (B k).a, (B k).b, (B k).c⟩ = false := hg
        clear hg
        go_wp2
        go_ret
        exact ⟨ret_bool hv.out.symm, hb2.out⟩
      | true =>
        have ha' : Hid (allB (k + 1) (fun i => okI C.R C.S i n (B i)) = true) := allB_succ ha.out hg
        have hg' : okI C.R C.S k n ⟨(B k).p, (B k).a, (B k).b, (B k).c⟩ = true := hg
        clear hg
        go_wp2
        exact ⟨⟨k + 1, by omega, by go_num, hb2, HX1, ha'⟩, by simp [intOf]; omega⟩
    · have hkn : k = n := by omega
      subst hkn
      go_wp2
      go_ret
      exact ⟨ret_bool (by simp [okBlk, ha.out]; omega), hb.out⟩

set_option maxHeartbeats 4000000 in
set_option maxRecDepth 100000 in
theorem validI (a1 a2 a3 : Option Addr) (c1 c2 c3 : Nat) (C : Co) (w : World) (h : CoAt w a1 a2 a3 C) (h1 : C.n1 ≤ 1048576) (h2 : C.n2 ≤ 1048576) (h3 : C.n3 ≤ 1048576) (hT : TabC w) :
    Calls Tryz.prog 48 #[.agg #[.int .i64 C.R, .int .i64 C.S, .slice a1 C.n1 c1, .slice a2 C.n2 c2, .slice a3 C.n3 c3]] w fun e w' => e = .returned (.bool (okCo C)) ∧ Below w.heap.size w w' := by
  have H := Hid.mk h
  have HT := Hid.mk hT
  clear h hT
  cases g1 : inB C.R 13 1000 with
  | false =>
    go_enter Tryz.func48, Tryz.ntmps48
    go_wp2_with (go_at_call 102; refine (inI _ _ _ _).mono ?_; rintro e w' ⟨rfl, rfl⟩)
    go_ret
    exact ⟨ret_bool (by simp [okCo, g1]), by go_grown⟩
  | true =>
    cases g2 : inB C.S 0 100 with
    | false =>
      go_enter Tryz.func48, Tryz.ntmps48
      go_wp2_with (go_at_call 102; refine (inI _ _ _ _).mono ?_; rintro e w' ⟨rfl, rfl⟩)
      go_ret
      exact ⟨ret_bool (by simp [okCo, g2]), by go_grown⟩
    | true =>
      have r0 : 13 ≤ C.R ∧ C.R ≤ 1000 := by simpa [inB] using g1
      have r1 : 0 ≤ C.S ∧ C.S ≤ 100 := by simpa [inB] using g2
      go_enter Tryz.func48, Tryz.ntmps48
      go_wp2_with (go_at_call 102; refine (inI _ _ _ _).mono ?_; rintro e w' ⟨rfl, rfl⟩)
      have hK : Below w.heap.size w (w.alloc (.cells #[.int .i64 C.R, .int .i64 C.S, .slice a1 C.n1 c1, .slice a2 C.n2 c2, .slice a3 C.n3 c3] 38)) := by go_grown
      refine (blockI C a1 a2 a3 c1 c2 c3 _ _ _ C.B1 _ (H.out.b1.below hK) h1 (HT.out.below hK) r0.1 r0.2 r1.1 r1.2).mono ?_
      rintro e w1 ⟨rfl, hb1⟩
      have HB1 := Hid.mk (below_then hK hb1)
      have A1 := Hid.mk (blk_below (blk_new w _) hb1)
      clear hb1 hK
      cases o1 : okBlk C.R C.S C.n1 C.B1 with
      | false =>
        go_wp2
        go_ret
        exact ⟨ret_bool (by simp [okCo, o1]), HB1.out⟩
      | true =>
        have x0 := blk_cell A1.out 0
        have x1 := blk_cell A1.out 1
        have x2 := blk_cell A1.out 2
        have x3 := blk_cell A1.out 3
        have x4 := blk_cell A1.out 4
        simp only [List.getElem?_toArray, List.getElem?_cons_zero, List.getElem?_cons_succ] at x0 x1 x2 x3 x4
        go_wp2_with fail
        clear x0 x1 x2 x3 x4
        refine (blockI C a1 a2 a3 c1 c2 c3 _ _ _ C.B2 _ (H.out.b2.below HB1.out) h2 (HT.out.below HB1.out) r0.1 r0.2 r1.1 r1.2).mono ?_
        rintro e w2 ⟨rfl, hb2⟩
        have HB2 := Hid.mk (below_then HB1.out hb2)
        have A2 := Hid.mk (blk_below A1.out hb2)
        clear hb2 HB1 A1
        cases o2 : okBlk C.R C.S C.n2 C.B2 with
        | false =>
          go_wp2
          go_ret
          exact ⟨ret_bool (by simp [okCo, o2]), HB2.out⟩
        | true =>
          have x0 := blk_cell A2.out 0
          have x1 := blk_cell A2.out 1
          have x2 := blk_cell A2.out 2
          have x3 := blk_cell A2.out 3
          have x4 := blk_cell A2.out 4
          simp only [List.getElem?_toArray, List.getElem?_cons_zero, List.getElem?_cons_succ] at x0 x1 x2 x3 x4
          go_wp2_with fail
          clear x0 x1 x2 x3 x4
          refine (blockI C a1 a2 a3 c1 c2 c3 _ _ _ C.B3 _ (H.out.b3.below HB2.out) h3 (HT.out.below HB2.out) r0.1 r0.2 r1.1 r1.2).mono ?_
          rintro e w3 ⟨rfl, hb3⟩
          have HB3 := Hid.mk (below_then HB2.out hb3)
          clear hb3 HB2 A2
          go_wp2
          go_ret
          exact ⟨ret_bool (by simp [okCo, g1, g2, o1, o2]), HB3.out⟩
end Go.Proofs.YtgooegcmgejfpaaGreatDoor.ValC
namespace Go.Proofs.YtgooegcmgejfpaaGreatDoor.StV
open Go Go.RowKit Go.Proofs.YtgooegcmgejfpaaGreatDoor.Mem
open Go.Proofs.YtgooegcmgejfpaaGreatDoor.Valid (inB ret_bool nodes validB inI inS nodes_bd)
set_option linter.unusedVariables false
set_option linter.unusedSimpArgs false
attribute [local go_sem ↓] Go.wp_at_zero Go.wp_at_succ

/-- A stop node. -/
def stopB (I : In) (x : Int) : Bool := inB x (I.nV : Int) (nodes I - 1)
/-- Nothing but a position and a rule. -/
def bareB (S : St) : Bool := (S.d == 0) && (S.t == 0) && (S.s == 0) && (S.l == 0) && ((S.n1 : Int) == 0) && ((S.n2 : Int) == 0) && ((S.n3 : Int) == 0)
def allIn (n : Nat) (L : Nat → Int) (lo hi : Int) : Bool := allB n (fun i => inB (L i) lo hi)
def listB (n : Nat) (L : Nat → Int) (m lo hi : Int) : Bool := ((n : Int) == m) && allIn n L lo hi
def deadB (S : St) : Bool := (S.p == -1) && (S.r == -1) && bareB S
def failB (S : St) : Bool := inB S.p 0 4097 && inB S.r 0 100 && bareB S
def standB (I : In) (v : Int) (S : St) : Bool := if S.p = 0 then S.d == v else stopB I S.d
def runB (C : Co) (I : In) (v : Int) (S : St) : Bool :=
  (S.r == -1) && inB S.p 0 4096 && standB I v S && inB S.t 0 1000000000 && inB S.s 0 1000000000 && inB S.l (-1000000000) 1000000000 &&
    listB S.n1 S.L1 (I.nQ : Int) 0 2 && listB S.n2 S.L2 C.R (-1000000000) 1000000000 && listB S.n3 S.L3 (C.S * (I.nQ : Int)) (-1000000000) 1000000000
def tripB (I : In) (v : Int) : Bool := inB v 0 ((I.nV : Int) - 1) && validB I
/-- The state keeps every bound. -/
def okSt (C : Co) (I : In) (v : Int) (S : St) : Bool := ValC.okCo C && tripB I v && (deadB S || failB S || runB C I v S)

/-- What a valid code and a valid instance bound. -/
theorem co_bd {C : Co} (h : ValC.okCo C = true) : 13 ≤ C.R ∧ C.R ≤ 1000 ∧ 0 ≤ C.S ∧ C.S ≤ 100 := by
  unfold ValC.okCo at h
  simp only [Bool.and_eq_true] at h
  obtain ⟨⟨⟨⟨h1, h2⟩, h3⟩, h4⟩, h5⟩ := h
  simp [ValC.inB] at h1 h2
  exact ⟨h1.1, h1.2, h2.1, h2.2⟩
theorem in_bd {I : In} (h : validB I = true) : I.nV ≤ 64 ∧ I.nQ ≤ 1000 ∧ I.nR ≤ 4000 := by
  unfold validB Valid.lens at h
  simp at h
  omega
theorem mul_bd {a : Int} {n : Nat} (h0 : 0 ≤ a) (h1 : a ≤ 100) (h2 : n ≤ 1000) : 0 ≤ a * (n : Int) ∧ a * (n : Int) ≤ 100000 := by
  refine ⟨Int.mul_nonneg h0 (by omega), ?_⟩
  have := Int.mul_le_mul h1 (show (n : Int) ≤ 1000 by omega) (by omega) (by omega)
  omega
theorem mul_wrap {a : Int} {n : Nat} (h0 : 0 ≤ a) (h1 : a ≤ 100) (h2 : n ≤ 1000) : IntKind.i64.wrap (a * (n : Int)) = a * (n : Int) := by
  obtain ⟨h3, h4⟩ := mul_bd h0 h1 h2
  rw [IntKind.wrap_i64]; omega
end Go.Proofs.YtgooegcmgejfpaaGreatDoor.StV
