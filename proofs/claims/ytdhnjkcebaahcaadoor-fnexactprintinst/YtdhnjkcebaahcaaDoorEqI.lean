import Derived.Test.YtdhnjkcebaahcaaDoorEq2
namespace Go.Proofs.YtdhnjkcebaahcaaDoor.Eq
open Go Go.RowKit Go.Proofs.YtdhnjkcebaahcaaDoor.Mem
set_option linter.unusedVariables false

set_option maxHeartbeats 1600000 in
theorem eqInst (a1 a2 a3 b1 b2 b3 : Option Addr) (c1 c2 c3 d1 d2 d3 : Nat) (I : In) (w : World) (h : InAt w a1 a2 a3 I) (h' : InAt w b1 b2 b3 I) (h1 : I.nV ≤ 1048576) (h2 : I.nQ ≤ 1048576) (h3 : I.nR ≤ 1048576) :
    Calls Tryd.prog 12 #[.agg #[.slice a1 I.nV c1, .slice a2 I.nQ c2, .slice a3 I.nR c3], .agg #[.slice b1 I.nV d1, .slice b2 I.nQ d2, .slice b3 I.nR d3]] w fun e w' => e = .returned (.bool true) ∧ Below w.heap.size w w' := by
  have H := Hid.mk h
  have H' := Hid.mk h'
  clear h h'
  go_enter Tryd.func12, Tryd.ntmps12
  go_wp2_with fail
  have HB0 : Below w.heap.size w ((w.alloc (Obj.cells #[Value.slice a1 I.nV c1, Value.slice a2 I.nQ c2, Value.slice a3 I.nR c3] 34)).alloc (Obj.cells #[Value.slice b1 I.nV d1, Value.slice b2 I.nQ d2, Value.slice b3 I.nR d3] 34)) := by go_grown
  refine (eqVehicleS a1 b1 I.nV c1 d1 I.V _ (H.out.v.below HB0) (H'.out.v.below HB0) h1).mono ?_
  rintro e w1 ⟨rfl, hb1⟩
  have A0 := Hid.mk (blk_below (blk_alloc (blk_new w _) _) hb1)
  have A1 := Hid.mk (blk_below (blk_new1 w _ _) hb1)
  have HB1 := Hid.mk (below_then HB0 hb1)
  clear hb1 HB0
  have k1 := blk_cell A0.out 1
  have k2 := blk_cell A1.out 1
  simp only [List.getElem?_toArray, List.getElem?_cons_zero, List.getElem?_cons_succ] at k1 k2
  go_wp2_with fail
  clear k1 k2
  refine (eqRequestS a2 b2 I.nQ c2 d2 I.Q _ (H.out.q.below HB1.out) (H'.out.q.below HB1.out) h2).mono ?_
  rintro e w2 ⟨rfl, hb2⟩
  have B0 := Hid.mk (blk_below A0.out hb2)
  have B1 := Hid.mk (blk_below A1.out hb2)
  have HB2 := Hid.mk (below_then HB1.out hb2)
  clear hb2 HB1 A0 A1
  have k1 := blk_cell B0.out 2
  have k2 := blk_cell B1.out 2
  simp only [List.getElem?_toArray, List.getElem?_cons_zero, List.getElem?_cons_succ] at k1 k2
  go_wp2_with fail
  clear k1 k2
  refine (eqRoadS a3 b3 I.nR c3 d3 I.R _ (H.out.r.below HB2.out) (H'.out.r.below HB2.out) h3).mono ?_
  rintro e w3 ⟨rfl, hb3⟩
  have HB3 := Hid.mk (below_then HB2.out hb3)
  clear hb3 HB2 B0 B1
  go_wp2
  go_ret
  exact ⟨rfl, HB3.out⟩
end Go.Proofs.YtdhnjkcebaahcaaDoor.Eq
