import Derived.Test.YtdhnjkcebaahcaaGreatDoorEqI
namespace Go.Proofs.YtdhnjkcebaahcaaGreatDoor.Eq
open Go Go.RowKit Go.Proofs.YtdhnjkcebaahcaaGreatDoor.Mem
set_option linter.unusedVariables false

set_option maxHeartbeats 1600000 in
theorem eqInstRes (a1 a2 a3 b1 b2 b3 : Option Addr) (c1 c2 c3 d1 d2 d3 : Nat) (e l : Int) (I : In) (w : World) (h : InAt w a1 a2 a3 I) (h' : InAt w b1 b2 b3 I) (h1 : I.nV ≤ 1048576) (h2 : I.nQ ≤ 1048576) (h3 : I.nR ≤ 1048576) :
    Calls Tryz.prog 7 #[.agg #[.int .i64 e, .int .i64 l, .slice a1 I.nV c1, .slice a2 I.nQ c2, .slice a3 I.nR c3], .agg #[.int .i64 e, .int .i64 l, .slice b1 I.nV d1, .slice b2 I.nQ d2, .slice b3 I.nR d3]] w fun e w' => e = .returned (.bool true) ∧ Below w.heap.size w w' := by
  have H := Hid.mk h
  have H' := Hid.mk h'
  clear h h'
  go_enter Tryz.func7, Tryz.ntmps7
  go_wp2_with fail
  have HB0 : Below w.heap.size w ((w.alloc (Obj.cells #[.int .i64 e, .int .i64 l, Value.slice a1 I.nV c1, Value.slice a2 I.nQ c2, Value.slice a3 I.nR c3] 29)).alloc (Obj.cells #[.int .i64 e, .int .i64 l, Value.slice b1 I.nV d1, Value.slice b2 I.nQ d2, Value.slice b3 I.nR d3] 29)) := by go_grown
  refine (eqInst a1 a2 a3 b1 b2 b3 c1 c2 c3 d1 d2 d3 I _ (H.out.below HB0) (H'.out.below HB0) h1 h2 h3).mono ?_
  rintro e w1 ⟨rfl, hb1⟩
  have HB1 := Hid.mk (below_then HB0 hb1)
  clear hb1 HB0
  go_wp2
  go_ret
  exact ⟨rfl, HB1.out⟩
end Go.Proofs.YtdhnjkcebaahcaaGreatDoor.Eq
