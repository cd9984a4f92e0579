import Derived.Test.YtgooegcmgejfpaaGreatDoorGr02
namespace Go.Proofs.YtgooegcmgejfpaaGreatDoor.Leaf
open Go Go.RowKit
set_option linter.unusedVariables false

set_option maxHeartbeats 400000 in
theorem toPlace (a b c d e : Int) (w : World) : Calls Tryz.prog 133 #[.agg #[.int .i64 a, .int .i64 b, .int .i64 c, .int .i64 d, .int .i64 e]] w fun r w' => r = .returned (.agg #[.int .i64 a, .int .i64 b, .int .i64 c, .int .i64 d, .int .i64 e]) ∧ Below w.heap.size w w' := by
  go_enter Tryz.func133, Tryz.ntmps133
  go_wp2
  go_returns
  exact ⟨rfl, by go_grown⟩

set_option maxHeartbeats 400000 in
theorem toRoad (a b c : Int) (w : World) : Calls Tryz.prog 101 #[.agg #[.int .i64 a, .int .i64 b, .int .i64 c]] w fun r w' => r = .returned (.agg #[.int .i64 a, .int .i64 b, .int .i64 c]) ∧ Below w.heap.size w w' := by
  go_enter Tryz.func101, Tryz.ntmps101
  go_wp2
  go_returns
  exact ⟨rfl, by go_grown⟩

set_option maxHeartbeats 400000 in
theorem toVehicle (a b x y o c h : Int) (w : World) : Calls Tryz.prog 99 #[.agg #[.int .i64 a, .int .i64 b, .int .i64 x, .int .i64 y, .int .i64 o, .int .i64 c, .int .i64 h]] w fun r w' => r = .returned (.agg #[.int .i64 a, .int .i64 b, .int .i64 x, .int .i64 y, .int .i64 o, .int .i64 c, .int .i64 h]) ∧ Below w.heap.size w w' := by
  go_enter Tryz.func99, Tryz.ntmps99
  go_wp2
  go_returns
  exact ⟨rfl, by go_grown⟩

set_option maxHeartbeats 800000 in
theorem toRequest (a b x y o c h x' y' o' c' h' : Int) (w : World) : Calls Tryz.prog 100 #[.agg #[.int .i64 a, .int .i64 b, .int .i64 x, .int .i64 y, .int .i64 o, .int .i64 c, .int .i64 h, .int .i64 x', .int .i64 y', .int .i64 o', .int .i64 c', .int .i64 h']] w fun r w' => r = .returned (.agg #[.int .i64 a, .int .i64 b, .int .i64 x, .int .i64 y, .int .i64 o, .int .i64 c, .int .i64 h, .int .i64 x', .int .i64 y', .int .i64 o', .int .i64 c', .int .i64 h']) ∧ Below w.heap.size w w' := by
  go_enter Tryz.func100, Tryz.ntmps100
  go_wp2
  go_returns
  exact ⟨rfl, by go_grown⟩
end Go.Proofs.YtgooegcmgejfpaaGreatDoor.Leaf
