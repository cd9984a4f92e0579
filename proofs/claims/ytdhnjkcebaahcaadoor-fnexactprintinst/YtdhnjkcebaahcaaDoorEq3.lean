import Derived.Test.YtdhnjkcebaahcaaDoorEqI
namespace Go.Proofs.YtdhnjkcebaahcaaDoor.Eq
open Go Go.RowKit Go.Proofs.YtdhnjkcebaahcaaDoor.Mem
set_option linter.unusedVariables false

/-- What is left of 'left' behind a list of n: -1 where it does not do. -/
def lft (n : Nat) (l : Int) : Int := if l - n < 0 then -1 else l - n

theorem szVehicleS (a : Option Addr) (n cap : Nat) (l : Int) (w : World) (hn : n ≤ 9223372036854775807) (h0 : 0 ≤ l) (h1 : l ≤ 1048576) : Calls Tryd.prog 28 #[.slice a n cap, .int .i64 l] w fun e w' => e = .returned (.int .i64 (lft n l)) ∧ w' = w := by
  unfold lft
  by_cases h : l - n < 0
  · rw [if_pos h]
    go_enter Tryd.func28, Tryd.ntmps28
    go_wp2
    go_ret
    exact ⟨rfl, rfl⟩
  · rw [if_neg h]
    go_enter Tryd.func28, Tryd.ntmps28
    go_wp2
    go_ret
    exact ⟨rfl, rfl⟩

theorem szRequestS (a : Option Addr) (n cap : Nat) (l : Int) (w : World) (hn : n ≤ 9223372036854775807) (h0 : 0 ≤ l) (h1 : l ≤ 1048576) : Calls Tryd.prog 29 #[.slice a n cap, .int .i64 l] w fun e w' => e = .returned (.int .i64 (lft n l)) ∧ w' = w := by
  unfold lft
  by_cases h : l - n < 0
  · rw [if_pos h]
    go_enter Tryd.func29, Tryd.ntmps29
    go_wp2
    go_ret
    exact ⟨rfl, rfl⟩
  · rw [if_neg h]
    go_enter Tryd.func29, Tryd.ntmps29
    go_wp2
    go_ret
    exact ⟨rfl, rfl⟩

theorem szRoadS (a : Option Addr) (n cap : Nat) (l : Int) (w : World) (hn : n ≤ 9223372036854775807) (h0 : 0 ≤ l) (h1 : l ≤ 1048576) : Calls Tryd.prog 30 #[.slice a n cap, .int .i64 l] w fun e w' => e = .returned (.int .i64 (lft n l)) ∧ w' = w := by
  unfold lft
  by_cases h : l - n < 0
  · rw [if_pos h]
    go_enter Tryd.func30, Tryd.ntmps30
    go_wp2
    go_ret
    exact ⟨rfl, rfl⟩
  · rw [if_neg h]
    go_enter Tryd.func30, Tryd.ntmps30
    go_wp2
    go_ret
    exact ⟨rfl, rfl⟩

theorem lft_bd (n : Nat) (l : Int) (h : ¬ lft n l < 0) (h1 : l ≤ 1048576) : 0 ≤ lft n l ∧ lft n l ≤ 1048576 ∧ (n : Int) ≤ l := by unfold lft at *; split at * <;> omega

set_option maxHeartbeats 1600000 in
/-- The size of an instance: -1, or its three lists are short. -/
theorem szInst (a1 a2 a3 : Option Addr) (c1 c2 c3 n1 n2 n3 : Nat) (w : World) (h1 : n1 ≤ 9223372036854775807) (h2 : n2 ≤ 9223372036854775807) (h3 : n3 ≤ 9223372036854775807) :
    Calls Tryd.prog 7 #[.agg #[.slice a1 n1 c1, .slice a2 n2 c2, .slice a3 n3 c3], .int .i64 1048576] w fun e w' => ∃ r : Int, e = .returned (.int .i64 r) ∧ Below w.heap.size w w' ∧ (r < 0 ∨ (0 ≤ r ∧ r ≤ 1048576 ∧ n1 ≤ 1048576 ∧ n2 ≤ 1048576 ∧ n3 ≤ 1048576)) := by
  by_cases g1 : lft n1 1048576 < 0
  · go_enter Tryd.func7, Tryd.ntmps7
    go_wp2_with (go_at_call 28; refine (szVehicleS _ _ _ _ _ h1 (by omega) (by omega)).mono ?_; rintro e w' ⟨rfl, rfl⟩)
    go_ret
    exact ⟨_, rfl, by go_grown, Or.inl (by omega)⟩
  have b1 := lft_bd _ _ g1 (by omega)
  by_cases g2 : lft n2 (lft n1 1048576) < 0
  · go_enter Tryd.func7, Tryd.ntmps7
    go_wp2_with (first | (go_at_call 28; refine (szVehicleS _ _ _ _ _ h1 (by omega) (by omega)).mono ?_; rintro e w' ⟨rfl, rfl⟩) | (go_at_call 29; refine (szRequestS _ _ _ _ _ h2 (by omega) (by omega)).mono ?_; rintro e w' ⟨rfl, rfl⟩))
    go_ret
    exact ⟨_, rfl, by go_grown, Or.inl (by omega)⟩
  have b2 := lft_bd _ _ g2 (by omega)
  by_cases g3 : lft n3 (lft n2 (lft n1 1048576)) < 0
  all_goals
    go_enter Tryd.func7, Tryd.ntmps7
    go_wp2_with (first | (go_at_call 28; refine (szVehicleS _ _ _ _ _ h1 (by omega) (by omega)).mono ?_; rintro e w' ⟨rfl, rfl⟩) | (go_at_call 29; refine (szRequestS _ _ _ _ _ h2 (by omega) (by omega)).mono ?_; rintro e w' ⟨rfl, rfl⟩) | (go_at_call 30; refine (szRoadS _ _ _ _ _ h3 (by omega) (by omega)).mono ?_; rintro e w' ⟨rfl, rfl⟩))
    go_ret
  · exact ⟨_, rfl, by go_grown, Or.inl (by omega)⟩
  · have b3 := lft_bd _ _ (show ¬ lft n3 (lft n2 (lft n1 1048576)) < 0 by omega) (by omega)
    exact ⟨_, rfl, by go_grown, Or.inr (by omega)⟩
end Go.Proofs.YtdhnjkcebaahcaaDoor.Eq
