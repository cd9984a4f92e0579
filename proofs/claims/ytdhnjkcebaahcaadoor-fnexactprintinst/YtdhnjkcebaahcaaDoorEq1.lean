import Derived.Test.YtdhnjkcebaahcaaDoorMem
import Derived.Test.YtdhnjkcebaahcaaDoorKit
import Derived.Deep.DrawnRows
namespace Go.Proofs.YtdhnjkcebaahcaaDoor.Eq
open Go Go.RowKit Go.Proofs.YtdhnjkcebaahcaaDoor.Mem
set_option linter.unusedVariables false
attribute [local go_sem ↓] Go.wp_at_zero Go.wp_at_succ

set_option maxHeartbeats 400000 in
theorem eqPlace (x y o c h : Int) (w : World) : Calls Tryd.prog 99 #[.agg #[.int .i64 x, .int .i64 y, .int .i64 o, .int .i64 c, .int .i64 h], .agg #[.int .i64 x, .int .i64 y, .int .i64 o, .int .i64 c, .int .i64 h]] w fun e w' => e = .returned (.bool true) ∧ Below w.heap.size w w' := by
  go_enter Tryd.func99, Tryd.ntmps99
  go_wp2
  go_ret
  exact ⟨rfl, by go_grown⟩

set_option maxHeartbeats 400000 in
theorem eqRoad (a b t : Int) (w : World) : Calls Tryd.prog 81 #[.agg #[.int .i64 a, .int .i64 b, .int .i64 t], .agg #[.int .i64 a, .int .i64 b, .int .i64 t]] w fun e w' => e = .returned (.bool true) ∧ Below w.heap.size w w' := by
  go_enter Tryd.func81, Tryd.ntmps81
  go_wp2
  go_ret
  exact ⟨rfl, by go_grown⟩

set_option maxHeartbeats 800000 in
theorem eqVehicle (a b x y o c h : Int) (w : World) : Calls Tryd.prog 79 #[.agg #[.int .i64 a, .int .i64 b, .int .i64 x, .int .i64 y, .int .i64 o, .int .i64 c, .int .i64 h], .agg #[.int .i64 a, .int .i64 b, .int .i64 x, .int .i64 y, .int .i64 o, .int .i64 c, .int .i64 h]] w fun e w' => e = .returned (.bool true) ∧ Below w.heap.size w w' := by
  go_enter Tryd.func79, Tryd.ntmps79
  go_wp2
  go_ret
  exact ⟨rfl, by go_grown⟩

set_option maxHeartbeats 1600000 in
theorem eqRequest (a b x y o c h x' y' o' c' h' : Int) (w : World) : Calls Tryd.prog 80 #[.agg #[.int .i64 a, .int .i64 b, .int .i64 x, .int .i64 y, .int .i64 o, .int .i64 c, .int .i64 h, .int .i64 x', .int .i64 y', .int .i64 o', .int .i64 c', .int .i64 h'], .agg #[.int .i64 a, .int .i64 b, .int .i64 x, .int .i64 y, .int .i64 o, .int .i64 c, .int .i64 h, .int .i64 x', .int .i64 y', .int .i64 o', .int .i64 c', .int .i64 h']] w fun e w' => e = .returned (.bool true) ∧ Below w.heap.size w w' := by
  go_enter Tryd.func80, Tryd.ntmps80
  go_wp2
  go_ret
  exact ⟨rfl, by go_grown⟩

end Go.Proofs.YtdhnjkcebaahcaaDoor.Eq
