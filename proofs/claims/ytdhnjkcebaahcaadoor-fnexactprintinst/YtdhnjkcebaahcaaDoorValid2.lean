import Derived.Test.YtdhnjkcebaahcaaDoorValid1
import Derived.Test.YtdhnjkcebaahcaaDoorMem
import Derived.Deep.DrawnRows
namespace Go.Proofs.YtdhnjkcebaahcaaDoor.Valid
open Go Go.RowKit Go.Proofs.YtdhnjkcebaahcaaDoor.Mem
set_option linter.unusedVariables false
attribute [local go_sem ↓] Go.wp_at_zero Go.wp_at_succ

def beforeB (x y : Rd) : Bool := decide (x.a < y.a) || ((x.a == y.a) && decide (x.b < y.b))
def cmp3 (x y : Int) : Int := if x < y then -1 else if y < x then 1 else 0
def or2 (x y : Int) : Int := if x != 0 then x else y
def cmpR (x y : Rd) : Int := or2 (cmp3 x.a y.a) (cmp3 x.b y.b)
theorem cmp3_bd (x y : Int) : -1 ≤ cmp3 x y ∧ cmp3 x y ≤ 1 := by unfold cmp3; split <;> (try split) <;> omega
theorem cmpR_before (x y : Rd) : decide (0 ≤ cmpR x y) = !beforeB x y := by
  unfold cmpR or2 cmp3 beforeB
  by_cases h1 : x.a < y.a
  · simp [h1]
  · by_cases h2 : y.a < x.a
    · have : ¬ x.a = y.a := by omega
      simp [h1, h2, this]
    · have : x.a = y.a := by omega
      by_cases h3 : x.b < y.b
      · simp [this, h3]
      · by_cases h4 : y.b < x.b
        · simp [this, h3, h4]
        · simp [this, h3, h4]

set_option maxHeartbeats 1600000 in
theorem beforeS (x y : Rd) (w : World) : Calls Tryd.prog 66 #[.agg #[.int .i64 x.a, .int .i64 x.b, .int .i64 x.t], .agg #[.int .i64 y.a, .int .i64 y.b, .int .i64 y.t]] w fun e w' => e = .returned (.bool (beforeB x y)) ∧ Below w.heap.size w w' := by
  by_cases h1 : x.a < y.a
  · go_enter Tryd.func66, Tryd.ntmps66
    go_wp2
    go_ret
    exact ⟨ret_bool (by simp [beforeB, h1]), by go_grown⟩
  · have hd : decide (x.a < y.a) = false := by simpa using h1
    by_cases h2 : x.a = y.a
    · have hd2 : (x.a == y.a) = true := by simpa using h2
      have H2 := Hid.mk h2
      clear h2
      go_enter Tryd.func66, Tryd.ntmps66
      go_wp2
      go_ret
      exact ⟨ret_bool (by simp [beforeB, H2.out]), by go_grown⟩
    · have hd2 : (x.a == y.a) = false := by simpa using h2
      go_enter Tryd.func66, Tryd.ntmps66
      go_wp2
      go_ret
      exact ⟨ret_bool (by simp [beforeB, h2]; omega), by go_grown⟩

theorem isNaN (x : Int) (w : World) : Calls Tryd.prog 105 #[.int .i64 x] w fun e w' => e = .returned (.bool false) ∧ w' = w := by
  go_enter Tryd.func105, Tryd.ntmps105
  go_wp2
  go_ret
  exact ⟨ret_bool (by simp), rfl⟩

theorem compare (x y : Int) (w : World) : Calls Tryd.prog 103 #[.int .i64 x, .int .i64 y] w fun e w' => e = .returned (.int .i64 (cmp3 x y)) ∧ w' = w := by
  unfold cmp3
  by_cases h1 : x < y
  · rw [if_pos h1]
    go_enter Tryd.func103, Tryd.ntmps103
    go_wp2_with (go_at_call 105; refine (isNaN _ _).mono ?_; rintro e w' ⟨rfl, rfl⟩)
    go_ret
    exact ⟨rfl, rfl⟩
  · by_cases h2 : y < x
    · rw [if_neg h1, if_pos h2]
      go_enter Tryd.func103, Tryd.ntmps103
      go_wp2_with (go_at_call 105; refine (isNaN _ _).mono ?_; rintro e w' ⟨rfl, rfl⟩)
      go_ret
      exact ⟨rfl, rfl⟩
    · rw [if_neg h1, if_neg h2]
      go_enter Tryd.func103, Tryd.ntmps103
      go_wp2_with (go_at_call 105; refine (isNaN _ _).mono ?_; rintro e w' ⟨rfl, rfl⟩)
      go_ret
      exact ⟨rfl, rfl⟩

/-- cmp.Or over two numbers in a block. -/
theorem orTwo (b : Nat) (x y : Int) (w : World) (h0 : w.cell? ⟨b, 0, none⟩ = some (.int .i64 x)) (h1 : w.cell? ⟨b, 1, none⟩ = some (.int .i64 y)) : Calls Tryd.prog 102 #[.slice (some ⟨b, 0, none⟩) 2 2] w fun e w' => e = .returned (.int .i64 (or2 x y)) ∧ w' = w := by
  unfold or2
  by_cases hx : x = 0
  · have hx' : (x != 0) = false := by simp [hx]
    have HX := Hid.mk hx
    clear hx
    by_cases hy : y = 0
    · have hy' : (y != 0) = false := by simp [hy]
      have HY := Hid.mk hy
      clear hy
      rw [if_neg (by simp [hx'])]
      go_enter Tryd.func102, Tryd.ntmps102
      go_wp2
      refine wp_loop_rounds 3 ?_
      rw [rounds_succ]
      go_wp2
      rw [rounds_succ]
      go_wp2
      rw [rounds_succ]
      go_wp2
      go_ret
      exact ⟨by rw [HY.out]; rfl, rfl⟩
    · have hy' : (y != 0) = true := by simp [hy]
      rw [if_neg (by simp [hx'])]
      go_enter Tryd.func102, Tryd.ntmps102
      go_wp2
      refine wp_loop_rounds 3 ?_
      rw [rounds_succ]
      go_wp2
      rw [rounds_succ]
      go_wp2
      go_ret
      exact ⟨rfl, rfl⟩
  · have hx' : (x != 0) = true := by simp [hx]
    rw [if_pos hx']
    go_enter Tryd.func102, Tryd.ntmps102
    go_wp2
    refine wp_loop_rounds 3 ?_
    rw [rounds_succ]
    go_wp2
    go_ret
    exact ⟨rfl, rfl⟩

set_option maxHeartbeats 1600000 in
theorem compareRoads (x y : Rd) (w : World) : Calls Tryd.prog 97 #[.agg #[.int .i64 x.a, .int .i64 x.b, .int .i64 x.t], .agg #[.int .i64 y.a, .int .i64 y.b, .int .i64 y.t]] w fun e w' => e = .returned (.int .i64 (cmpR x y)) ∧ Below w.heap.size w w' := by
  go_enter Tryd.func97, Tryd.ntmps97
  go_wp2_with fail
  go_region_held3 (fun w' => w'.cell? ⟨w.heap.size, 0, none⟩ = some (.int .i64 x.a) ∧ w'.cell? ⟨w.heap.size, 1, none⟩ = some (.int .i64 x.b) ∧ w'.cell? ⟨w.heap.size + 1, 0, none⟩ = some (.int .i64 y.a) ∧ w'.cell? ⟨w.heap.size + 1, 1, none⟩ = some (.int .i64 y.b)) (go_keep)
    ((first | (go_at_call 103; refine (compare _ _ _).mono ?_; rintro e w' ⟨rfl, rfl⟩) | (go_at_call 102; refine (orTwo _ (cmp3 x.a y.a) (cmp3 x.b y.b) _ ?_ ?_).mono ?_; (go_simp); (go_simp); rintro e w' ⟨rfl, rfl⟩)))
  go_wp2
  go_ret
  exact ⟨rfl, by go_grown⟩
end Go.Proofs.YtdhnjkcebaahcaaDoor.Valid
