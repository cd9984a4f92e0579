import Derived.Test.YtdpmdmgjlpiikaaProg
import Derived.WalkKit
import Derived.WalkSpells
import Derived.WalkLawsBesides
import Derived.Handy
import Derived.Lib.MinMax
namespace Go.Proofs.Ytdpmdmgjlpiikaa.Arith
open Go Go.RowKit
set_option linter.unusedVariables false

/-- held within -1000000000 .. 1000000000 -/
def cl (x : Int) : Int := if 1000000000 < x then 1000000000 else if x < -1000000000 then -1000000000 else x
theorem cl_bd (x : Int) : -1000000000 ≤ cl x ∧ cl x ≤ 1000000000 := by unfold cl; split <;> (try split) <;> omega
theorem cl_hi (x : Int) (h : 1000000000 < x) : cl x = 1000000000 := by unfold cl; rw [if_pos h]
theorem cl_lo (x : Int) (h : x < -1000000000) : cl x = -1000000000 := by unfold cl; rw [if_neg (by omega), if_pos h]
theorem cl_in (x : Int) (h : ¬ 1000000000 < x) (h' : ¬ x < -1000000000) : cl x = x := by unfold cl; rw [if_neg h, if_neg h']
theorem ret_int {k : IntKind} {a b : Int} (h : a = b) : Ending.returned (.int k a) = .returned (.int k b) := by rw [h]

theorem clampS (x : Int) (w : World) : Calls Try.prog 23 #[.int .i64 x] w fun e w' => e = .returned (.int .i64 (cl x)) ∧ w' = w := by
  by_cases h1 : 1000000000 < x
  · rw [cl_hi x h1]
    go_enter Try.func23, Try.ntmps23
    go_wp2
    go_ret
    exact ⟨rfl, rfl⟩
  · by_cases h2 : x < -1000000000
    · rw [cl_lo x h2]
      go_enter Try.func23, Try.ntmps23
      go_wp2
      go_ret
      exact ⟨rfl, rfl⟩
    · rw [cl_in x h1 h2]
      go_enter Try.func23, Try.ntmps23
      go_wp2
      go_ret
      exact ⟨rfl, rfl⟩

theorem cl_mm (x : Int) : min (max x (-1000000000)) 1000000000 = cl x := by unfold cl; split <;> (try split) <;> omega
theorem clampI (x : Int) (w : World) : Calls Try.prog 24 #[.int .i64 x] w fun e w' => e = .returned (.int .i64 (cl x)) ∧ w' = w := by
  go_enter Try.func24, Try.ntmps24
  go_wp2
  go_ret
  exact ⟨ret_int (cl_mm x), rfl⟩

def sadd (a b : Int) : Int := cl (cl a + cl b)
def smul (a b : Int) : Int := cl (wrap64 (cl a * cl b))

theorem addS (a b : Int) (w : World) : Calls Try.prog 8 #[.int .i64 a, .int .i64 b] w fun e w' => e = .returned (.int .i64 (sadd a b)) ∧ w' = w := by
  have ha := cl_bd a
  have hb := cl_bd b
  go_enter Try.func8, Try.ntmps8
  go_wp2_with (go_at_call 23; refine (clampS _ _).mono ?_; rintro e w' ⟨rfl, rfl⟩)
  go_ret
  exact ⟨rfl, rfl⟩
theorem addI (a b : Int) (w : World) : Calls Try.prog 9 #[.int .i64 a, .int .i64 b] w fun e w' => e = .returned (.int .i64 (sadd a b)) ∧ w' = w := by
  have ha := cl_bd a
  have hb := cl_bd b
  go_enter Try.func9, Try.ntmps9
  go_wp2_with (go_at_call 24; refine (clampI _ _).mono ?_; rintro e w' ⟨rfl, rfl⟩)
  go_ret
  exact ⟨rfl, rfl⟩
theorem mulS (a b : Int) (w : World) : Calls Try.prog 10 #[.int .i64 a, .int .i64 b] w fun e w' => e = .returned (.int .i64 (smul a b)) ∧ w' = w := by
  go_enter Try.func10, Try.ntmps10
  go_wp2_with (go_at_call 23; refine (clampS _ _).mono ?_; rintro e w' ⟨rfl, rfl⟩)
  go_ret
  exact ⟨rfl, rfl⟩
theorem mulI (a b : Int) (w : World) : Calls Try.prog 11 #[.int .i64 a, .int .i64 b] w fun e w' => e = .returned (.int .i64 (smul a b)) ∧ w' = w := by
  go_enter Try.func11, Try.ntmps11
  go_wp2_with (go_at_call 24; refine (clampI _ _).mono ?_; rintro e w' ⟨rfl, rfl⟩)
  go_ret
  exact ⟨rfl, rfl⟩

theorem lawAdd (a b : Int) (w : World) : Calls Try.prog 3 #[.int .i64 a, .int .i64 b] w fun e w' => e = .returned (.bool true) ∧ w' = w := by
  go_enter Try.func3, Try.ntmps3
  go_wp2_with (first | (go_at_call 8; refine (addS _ _ _).mono ?_; rintro e w' ⟨rfl, rfl⟩) | (go_at_call 9; refine (addI _ _ _).mono ?_; rintro e w' ⟨rfl, rfl⟩))
  go_ret
  exact ⟨rfl, rfl⟩
theorem lawMul (a b : Int) (w : World) : Calls Try.prog 4 #[.int .i64 a, .int .i64 b] w fun e w' => e = .returned (.bool true) ∧ w' = w := by
  go_enter Try.func4, Try.ntmps4
  go_wp2_with (first | (go_at_call 10; refine (mulS _ _ _).mono ?_; rintro e w' ⟨rfl, rfl⟩) | (go_at_call 11; refine (mulI _ _ _).mono ?_; rintro e w' ⟨rfl, rfl⟩))
  go_ret
  exact ⟨rfl, rfl⟩
end Go.Proofs.Ytdpmdmgjlpiikaa.Arith
