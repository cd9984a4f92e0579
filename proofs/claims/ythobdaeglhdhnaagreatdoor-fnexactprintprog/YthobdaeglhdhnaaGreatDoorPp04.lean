import Derived.Test.YthobdaeglhdhnaaGreatDoorPp03
import Derived.Deep.DrawnRows
namespace Go.Proofs.YthobdaeglhdhnaaGreatDoor.Syn
open Go Go.RowKit Go.Proofs.YthobdaeglhdhnaaGreatDoor.Mem
set_option linter.unusedVariables false
set_option linter.unusedSimpArgs false
attribute [local go_sem ↓] Go.wp_at_zero Go.wp_at_succ

theorem run_geq {P : Program} {o : Oper} {ρ : Operand → Value} {w : World} {T : TypeId} {x y : Operand} {s l : Int} (hu : P.underlying T = some (.int .i64)) (ho : o.op = .binOp .geq T x y T) (hx : ρ x = .int .i64 s) (hc : ρ y = .int .i64 l) : (execOp ρ o).run P w = .ok (.value (.bool (decide (l ≤ s)))) w := by
  simp [execOp, ho, hx, hc, hu, go_sem]
theorem run_as {P : Program} {o : Oper} {ρ : Operand → Value} {w : World} {x : Operand} {v : Value} (ho : o.op = .assign x) (hx : ρ x = v) : (execOp ρ o).run P w = .ok (.value v) w := by
  simp [execOp, ho, hx, go_sem]
theorem resF_unroll (n : List UInt8) (b : Bool) : (((((((((((((((((((((((b || n == [108, 101, 116]) || n == [101, 97, 99, 104]) || n == [101, 110, 100]) || n == [115, 117, 109]) || n == [102, 114, 111, 109]) || n == [105, 110]) || n == [110, 101, 118, 101, 114]) || n == [116, 104, 101, 110]) || n == [97, 112, 97, 114, 116]) || n == [108, 105, 102, 111]) || n == [114, 105, 100, 101]) || n == [115, 116, 114, 101, 97, 107]) || n == [109, 111, 115, 116]) || n == [97, 110, 100]) || n == [111, 114]) || n == [110, 111, 116]) || n == [109, 105, 110]) || n == [109, 97, 120]) || n == [105, 102]) || n == [104, 97, 115]) || n == [115, 107, 105, 108, 108]) || n == [116, 114, 117, 101]) || n == [102, 97, 108, 115, 101]) = (b || resF n rwS) := by
  simp only [resF, rwS, Bool.or_false, Bool.or_assoc]

set_option maxHeartbeats 4000000 in
set_option maxRecDepth 100000 in
theorem reservedS1 (z : Int) (n : List UInt8) (w : World) (CA : Hid (∀ W : World, Calls Tryz.prog 73 #[.string ⟨n.toArray⟩] W fun e w' => e = .returned (.int .i64 z) ∧ w' = W)) : Calls Tryz.prog 54 #[.string ⟨n.toArray⟩] w fun e w' => e = .returned (.bool (decide (0 ≤ z) || resF n rwS)) ∧ w' = w := by
  have hu := Tryz.underlying9
  have hi := Tryz.underlying2
  go_enter Tryz.func54, Tryz.ntmps54
  go_wp2_with fail
  refine (CA.out _).mono ?_
  rintro e w' ⟨rfl, hw⟩
  subst hw
  rename_i K X Q' hK hX
  refine hX _ _ ?_
  refine wpList_val rfl (run_geq hi rfl rfl rfl) ?_
  refine moveStep (N := 98) (n := n) (b := decide (0 ≤ z)) (p := 5) ⟨rfl, rfl, rfl, rfl⟩ (by omega) fun a0 c0 => ?_
  refine orStep (lit := [108, 101, 116]) hu c0 (j := 3) rfl (by omega) fun a1 c1 => ?_
  refine moveStep c1 (by omega) fun a2 c2 => ?_
  refine orStep (lit := [101, 97, 99, 104]) hu c2 (j := 7) rfl (by omega) fun a3 c3 => ?_
  refine moveStep c3 (by omega) fun a4 c4 => ?_
  refine orStep (lit := [101, 110, 100]) hu c4 (j := 11) rfl (by omega) fun a5 c5 => ?_
  refine moveStep c5 (by omega) fun a6 c6 => ?_
  refine orStep (lit := [115, 117, 109]) hu c6 (j := 15) rfl (by omega) fun a7 c7 => ?_
  refine moveStep c7 (by omega) fun a8 c8 => ?_
  refine orStep (lit := [102, 114, 111, 109]) hu c8 (j := 19) rfl (by omega) fun a9 c9 => ?_
  refine moveStep c9 (by omega) fun a10 c10 => ?_
  refine orStep (lit := [105, 110]) hu c10 (j := 23) rfl (by omega) fun a11 c11 => ?_
  refine moveStep c11 (by omega) fun a12 c12 => ?_
  refine orStep (lit := [110, 101, 118, 101, 114]) hu c12 (j := 27) rfl (by omega) fun a13 c13 => ?_
  refine moveStep c13 (by omega) fun a14 c14 => ?_
  refine orStep (lit := [116, 104, 101, 110]) hu c14 (j := 31) rfl (by omega) fun a15 c15 => ?_
  refine moveStep c15 (by omega) fun a16 c16 => ?_
  refine orStep (lit := [97, 112, 97, 114, 116]) hu c16 (j := 35) rfl (by omega) fun a17 c17 => ?_
  refine moveStep c17 (by omega) fun a18 c18 => ?_
  refine orStep (lit := [108, 105, 102, 111]) hu c18 (j := 39) rfl (by omega) fun a19 c19 => ?_
  refine moveStep c19 (by omega) fun a20 c20 => ?_
  refine orStep (lit := [114, 105, 100, 101]) hu c20 (j := 43) rfl (by omega) fun a21 c21 => ?_
  refine moveStep c21 (by omega) fun a22 c22 => ?_
  refine orStep (lit := [115, 116, 114, 101, 97, 107]) hu c22 (j := 47) rfl (by omega) fun a23 c23 => ?_
  refine moveStep c23 (by omega) fun a24 c24 => ?_
  refine orStep (lit := [109, 111, 115, 116]) hu c24 (j := 51) rfl (by omega) fun a25 c25 => ?_
  refine moveStep c25 (by omega) fun a26 c26 => ?_
  refine orStep (lit := [97, 110, 100]) hu c26 (j := 55) rfl (by omega) fun a27 c27 => ?_
  refine moveStep c27 (by omega) fun a28 c28 => ?_
  refine orStep (lit := [111, 114]) hu c28 (j := 59) rfl (by omega) fun a29 c29 => ?_
  refine moveStep c29 (by omega) fun a30 c30 => ?_
  refine orStep (lit := [110, 111, 116]) hu c30 (j := 63) rfl (by omega) fun a31 c31 => ?_
  refine moveStep c31 (by omega) fun a32 c32 => ?_
  refine orStep (lit := [109, 105, 110]) hu c32 (j := 67) rfl (by omega) fun a33 c33 => ?_
  refine moveStep c33 (by omega) fun a34 c34 => ?_
  refine orStep (lit := [109, 97, 120]) hu c34 (j := 71) rfl (by omega) fun a35 c35 => ?_
  refine moveStep c35 (by omega) fun a36 c36 => ?_
  refine orStep (lit := [105, 102]) hu c36 (j := 75) rfl (by omega) fun a37 c37 => ?_
  refine moveStep c37 (by omega) fun a38 c38 => ?_
  refine orStep (lit := [104, 97, 115]) hu c38 (j := 79) rfl (by omega) fun a39 c39 => ?_
  refine moveStep c39 (by omega) fun a40 c40 => ?_
  refine orStep (lit := [115, 107, 105, 108, 108]) hu c40 (j := 83) rfl (by omega) fun a41 c41 => ?_
  refine moveStep c41 (by omega) fun a42 c42 => ?_
  refine orStep (lit := [116, 114, 117, 101]) hu c42 (j := 87) rfl (by omega) fun a43 c43 => ?_
  refine moveStep c43 (by omega) fun a44 c44 => ?_
  refine orStep (lit := [102, 97, 108, 115, 101]) hu c44 (j := 91) rfl (by omega) fun a45 c45 => ?_
  rw [resF_unroll] at c45
  have e : a45.eval (.tmp 97) = .bool (decide (0 ≤ z) || resF n rwS) := getD_of c45.at_
  refine wpList_val (v := .bool (decide (0 ≤ z) || resF n rwS)) rfl (run_as rfl e) ?_
  refine hK _ _ ?_
  have e2 : (a45.put (some 2) (.bool (decide (0 ≤ z) || resF n rwS))).tmps[2]? = some (.bool (decide (0 ≤ z) || resF n rwS)) := put_at (by rw [c45.size]; omega)
  have e3 : (a45.put (some 2) (.bool (decide (0 ≤ z) || resF n rwS))).defers = [] := c45.defers
  show Code.wp _ Code.ret Q' (a45.put (some 2) (.bool (decide (0 ≤ z) || resF n rwS))) _
  generalize a45.put (some 2) (.bool (decide (0 ≤ z) || resF n rwS)) = b at e2 e3 ⊢
  clear hK hX
  go_wp2
  refine bodyPost_ret (v := .bool (decide (0 ≤ z) || resF n rwS)) ?_ e3 ⟨rfl, rfl⟩
  simp only [results, Tryz.results54]
  simp [e2, go_sem]
theorem reservedS (n : List UInt8) (w : World) : Calls Tryz.prog 54 #[.string ⟨n.toArray⟩] w fun e w' => e = .returned (.bool (resB n)) ∧ w' = w := by
  rw [← resS_eq]
  exact reservedS1 (atF n 0 13) n w (Hid.mk fun W => attrOfS n W)
end Go.Proofs.YthobdaeglhdhnaaGreatDoor.Syn
