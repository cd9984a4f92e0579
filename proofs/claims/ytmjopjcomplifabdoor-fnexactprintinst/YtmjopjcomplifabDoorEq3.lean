import Derived.Test.YtmjopjcomplifabDoorEq2
namespace Go.Proofs.YtmjopjcomplifabDoor.Eq
open Go Go.RowKit Go.Proofs.YtmjopjcomplifabDoor.Mem
set_option linter.unusedVariables false

set_option maxHeartbeats 1600000 in
theorem eqInst (a1 a2 a3 b1 b2 b3 : Option Addr) (c1 c2 c3 d1 d2 d3 : Nat) (I : In) (w : World) (h : InAt w a1 a2 a3 I) (h' : InAt w b1 b2 b3 I) (h1 : I.nV ≤ 1048576) (h2 : I.nQ ≤ 1048576) (h3 : I.nR ≤ 1048576) :
    Calls Tryd.prog 9 #[.agg #[.slice a1 I.nV c1, .slice a2 I.nQ c2, .slice a3 I.nR c3], .agg #[.slice b1 I.nV d1, .slice b2 I.nQ d2, .slice b3 I.nR d3]] w fun e w' => e = .returned (.bool true) ∧ Below w.heap.size w w' := by
  have H := Hid.mk h
  have H' := Hid.mk h'
  clear h h'
  go_enter Tryd.func9, Tryd.ntmps9
  go_wp2_with fail
  have HB0 : Below w.heap.size w ((w.alloc (Obj.cells #[Value.slice a1 I.nV c1, Value.slice a2 I.nQ c2, Value.slice a3 I.nR c3] 34)).alloc (Obj.cells #[Value.slice b1 I.nV d1, Value.slice b2 I.nQ d2, Value.slice b3 I.nR d3] 34)) := by go_grown
  refine (eqVehicleS a1 b1 I.nV c1 d1 I.V _ (H.out.v.below HB0) (H'.out.v.below HB0) h1).mono ?_
  rintro e w1 ⟨rfl, hb1⟩
  have A0 := Hid.mk (blk_below (blk_alloc (blk_new w _) _) hb1)
  have A1 := Hid.mk (blk_below (blk_new1 w _ _) hb1)
  have HB1 := Hid.mk (below_then HB0 hb1)
  clear hb1 HB0
  have k1 := blk_cell A0.out 1
  have k2 := blk_cell A1.out 1
  simp only [List.getElem?_toArray, List.getElem?_cons_zero, List.getElem?_cons_succ] at k1 k2
  go_wp2_with fail
  clear k1 k2
  refine (eqRequestS a2 b2 I.nQ c2 d2 I.Q _ (H.out.q.below HB1.out) (H'.out.q.below HB1.out) h2).mono ?_
  rintro e w2 ⟨rfl, hb2⟩
  have B0 := Hid.mk (blk_below A0.out hb2)
  have B1 := Hid.mk (blk_below A1.out hb2)
  have HB2 := Hid.mk (below_then HB1.out hb2)
  clear hb2 HB1 A0 A1
  have k1 := blk_cell B0.out 2
  have k2 := blk_cell B1.out 2
  simp only [List.getElem?_toArray, List.getElem?_cons_zero, List.getElem?_cons_succ] at k1 k2
  go_wp2_with fail
  clear k1 k2
  refine (eqRoadS a3 b3 I.nR c3 d3 I.R _ (H.out.r.below HB2.out) (H'.out.r.below HB2.out) h3).mono ?_
  rintro e w3 ⟨rfl, hb3⟩
  have HB3 := Hid.mk (below_then HB2.out hb3)
  clear hb3 HB2 B0 B1
  go_wp2
  go_ret
  exact ⟨rfl, HB3.out⟩

/-- What is left of 'left' behind a list of n: -1 where it does not do. -/
def lft (n : Nat) (l : Int) : Int := if l - n < 0 then -1 else l - n

theorem szVehicleS (a : Option Addr) (n cap : Nat) (l : Int) (w : World) (hn : n ≤ 9223372036854775807) (h0 : 0 ≤ l) (h1 : l ≤ 1048576) : Calls Tryd.prog 13 #[.slice a n cap, .int .i64 l] w fun e w' => e = .returned (.int .i64 (lft n l)) ∧ w' = w := by
  unfold lft
  by_cases h : l - n < 0
  · rw [if_pos h]
    go_enter Tryd.func13, Tryd.ntmps13
    go_wp2
    go_ret
    exact ⟨rfl, rfl⟩
  · rw [if_neg h]
    go_enter Tryd.func13, Tryd.ntmps13
    go_wp2
    go_ret
    exact ⟨rfl, rfl⟩

theorem szRequestS (a : Option Addr) (n cap : Nat) (l : Int) (w : World) (hn : n ≤ 9223372036854775807) (h0 : 0 ≤ l) (h1 : l ≤ 1048576) : Calls Tryd.prog 14 #[.slice a n cap, .int .i64 l] w fun e w' => e = .returned (.int .i64 (lft n l)) ∧ w' = w := by
  unfold lft
  by_cases h : l - n < 0
  · rw [if_pos h]
    go_enter Tryd.func14, Tryd.ntmps14
    go_wp2
    go_ret
    exact ⟨rfl, rfl⟩
  · rw [if_neg h]
    go_enter Tryd.func14, Tryd.ntmps14
    go_wp2
    go_ret
    exact ⟨rfl, rfl⟩

theorem szRoadS (a : Option Addr) (n cap : Nat) (l : Int) (w : World) (hn : n ≤ 9223372036854775807) (h0 : 0 ≤ l) (h1 : l ≤ 1048576) : Calls Tryd.prog 15 #[.slice a n cap, .int .i64 l] w fun e w' => e = .returned (.int .i64 (lft n l)) ∧ w' = w := by
  unfold lft
  by_cases h : l - n < 0
  · rw [if_pos h]
    go_enter Tryd.func15, Tryd.ntmps15
    go_wp2
    go_ret
    exact ⟨rfl, rfl⟩
  · rw [if_neg h]
    go_enter Tryd.func15, Tryd.ntmps15
    go_wp2
    go_ret
    exact ⟨rfl, rfl⟩

theorem lft_bd (n : Nat) (l : Int) (h : ¬ lft n l < 0) (h1 : l ≤ 1048576) : 0 ≤ lft n l ∧ lft n l ≤ 1048576 ∧ (n : Int) ≤ l := by unfold lft at *; split at * <;> omega

set_option maxHeartbeats 1600000 in
/-- The size of an instance: -1, or its three lists are short. -/
theorem szInst (a1 a2 a3 : Option Addr) (c1 c2 c3 n1 n2 n3 : Nat) (w : World) (h1 : n1 ≤ 9223372036854775807) (h2 : n2 ≤ 9223372036854775807) (h3 : n3 ≤ 9223372036854775807) :
    Calls Tryd.prog 4 #[.agg #[.slice a1 n1 c1, .slice a2 n2 c2, .slice a3 n3 c3], .int .i64 1048576] w fun e w' => ∃ r : Int, e = .returned (.int .i64 r) ∧ Below w.heap.size w w' ∧ (r < 0 ∨ (0 ≤ r ∧ r ≤ 1048576 ∧ n1 ≤ 1048576 ∧ n2 ≤ 1048576 ∧ n3 ≤ 1048576)) := by
  by_cases g1 : lft n1 1048576 < 0
  · go_enter Tryd.func4, Tryd.ntmps4
    go_wp2_with (go_at_call 13; refine (szVehicleS _ _ _ _ _ h1 (by omega) (by omega)).mono ?_; rintro e w' ⟨rfl, rfl⟩)
    go_ret
    exact ⟨_, rfl, by go_grown, Or.inl (by omega)⟩
  have b1 := lft_bd _ _ g1 (by omega)
  by_cases g2 : lft n2 (lft n1 1048576) < 0
  · go_enter Tryd.func4, Tryd.ntmps4
    go_wp2_with (first | (go_at_call 13; refine (szVehicleS _ _ _ _ _ h1 (by omega) (by omega)).mono ?_; rintro e w' ⟨rfl, rfl⟩) | (go_at_call 14; refine (szRequestS _ _ _ _ _ h2 (by omega) (by omega)).mono ?_; rintro e w' ⟨rfl, rfl⟩))
    go_ret
    exact ⟨_, rfl, by go_grown, Or.inl (by omega)⟩
  have b2 := lft_bd _ _ g2 (by omega)
  by_cases g3 : lft n3 (lft n2 (lft n1 1048576)) < 0
  all_goals
    go_enter Tryd.func4, Tryd.ntmps4
    go_wp2_with (first | (go_at_call 13; refine (szVehicleS _ _ _ _ _ h1 (by omega) (by omega)).mono ?_; rintro e w' ⟨rfl, rfl⟩) | (go_at_call 14; refine (szRequestS _ _ _ _ _ h2 (by omega) (by omega)).mono ?_; rintro e w' ⟨rfl, rfl⟩) | (go_at_call 15; refine (szRoadS _ _ _ _ _ h3 (by omega) (by omega)).mono ?_; rintro e w' ⟨rfl, rfl⟩))
    go_ret
  · exact ⟨_, rfl, by go_grown, Or.inl (by omega)⟩
  · have b3 := lft_bd _ _ (show ¬ lft n3 (lft n2 (lft n1 1048576)) < 0 by omega) (by omega)
    exact ⟨_, rfl, by go_grown, Or.inr (by omega)⟩
end Go.Proofs.YtmjopjcomplifabDoor.Eq
