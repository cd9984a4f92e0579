/-
  NARROWER THAN 'FOR EVERY INPUT', by the rows' own cells (each row's printed sentence says how): FnExactValidCode: laid · FnExactEncodeCode: laid · FnExactDecodeCode: laid · FnExactValidState: laid.
  DERIVED. THE GIVEN ROWS OF THIS SEAT. 4 by the template 'for every input the law returns true; each argument reads behind the call as it read before'; 0 by the template 'total and deterministic' (their statements: YtncjdeifnfbahacDoorTotals.lean).
  GIVEN WITH THE SEED: the statements are not yours to turn. If you find one false, say at which input.
  Laid BY PROGRAM, IN A SANDBOX (cutbox-rows.mjs): the forced cells as the released guide's own fill.sh prints them over the translation 44b128a8dec331d8… (all of the seat's roots in one cut). By AI agents, Wed Nov 11 2026. No macro, syntax, notation, axiom, sorry.
-/
import Derived.Test.YtncjdeifnfbahacDoorChecked
import GoSem.Claim
import GoSem.ClaimJoined
import GoSem.ClaimMapViews
import Derived.JoinedTies
import Derived.KernelRfl
namespace Go.Proofs.YtncjdeifnfbahacDoor
/- THE CELL 'sum', in the pinned program and in every row, IS THE sha256 OF THE DUMP (.gsa) THAT YtncjdeifnfbahacDoorProg.lean LOADS. Nothing in Lean hashes anything: it is a label: what it is worth is what the hold of that sum in a sandbox is worth. -/
noncomputable def Tryd.pinned : Pinned := { name := "ytncjdeifnfbahacdoor", sum := "44b128a8dec331d88756e8043511a6db1347faa15293e8d0ae435e402aaeb019", checked := Tryd.checked }
namespace Rows
def none {H : Type} : Left H := { results := [], args := [] }

/- WHAT THE LISTED PACKAGE-LEVEL VARIABLES READ AS WHEN THE CALL BEGINS. Each datum BY PROGRAM (the guide's laid-datum.mjs) off the statement by which the dump's own 'gosem.cut.vars' lays the variable. In a bare row this is a premise. The card (YtncjdeifnfbahacDoorCards.lean) ties it to the program's text. -/
def laid_loop_example_s0023_impl_insShapes {H : Type} : DataW H := .agg [.agg [.lit (.int .i64 0), .lit (.int .i64 0), .lit (.int .i64 0)], .agg [.lit (.int .i64 1), .lit (.int .i64 3), .lit (.int .i64 0)], .agg [.lit (.int .i64 1), .lit (.int .i64 2), .lit (.int .i64 0)], .agg [.lit (.int .i64 1), .lit (.int .i64 2), .lit (.int .i64 0)], .agg [.lit (.int .i64 1), .lit (.int .i64 2), .lit (.int .i64 0)], .agg [.lit (.int .i64 1), .lit (.int .i64 2), .lit (.int .i64 2)], .agg [.lit (.int .i64 1), .lit (.int .i64 2), .lit (.int .i64 2)], .agg [.lit (.int .i64 1), .lit (.int .i64 2), .lit (.int .i64 2)], .agg [.lit (.int .i64 1), .lit (.int .i64 2), .lit (.int .i64 2)], .agg [.lit (.int .i64 1), .lit (.int .i64 2), .lit (.int .i64 2)], .agg [.lit (.int .i64 1), .lit (.int .i64 2), .lit (.int .i64 2)], .agg [.lit (.int .i64 1), .lit (.int .i64 2), .lit (.int .i64 2)], .agg [.lit (.int .i64 1), .lit (.int .i64 2), .lit (.int .i64 2)], .agg [.lit (.int .i64 1), .lit (.int .i64 4), .lit (.int .i64 0)], .agg [.lit (.int .i64 1), .lit (.int .i64 4), .lit (.int .i64 0)], .agg [.lit (.int .i64 2), .lit (.int .i64 5), .lit (.int .i64 0)], .agg [.lit (.int .i64 2), .lit (.int .i64 5), .lit (.int .i64 0)], .agg [.lit (.int .i64 0), .lit (.int .i64 5), .lit (.int .i64 0)], .agg [.lit (.int .i64 2), .lit (.int .i64 6), .lit (.int .i64 0)], .agg [.lit (.int .i64 7), .lit (.int .i64 2), .lit (.int .i64 0)], .agg [.lit (.int .i64 1), .lit (.int .i64 7), .lit (.int .i64 0)]]

/-- 'laws.FnExactValidCode': WHATEVER THE INPUT: true; the input reads as it did. -/
def fnExactValidCodeSpec : ChangeSpec := { name := "fnExactValidCode", vars := ["loop.example/s0023/impl.insShapes"], fn := fun _ => fun
  | [d, g1] => { results := [.lit (.bool true)], args := [d], vars := [g1] }
  | _ => none }
def fnExactValidCodeRow : OpenClaim := { program := "ytncjdeifnfbahacdoor", sum := "44b128a8dec331d88756e8043511a6db1347faa15293e8d0ae435e402aaeb019", func := "loop.example/s0023/laws.FnExactValidCode", spec := "fnExactValidCode", named := ["loop.example/s0023/impl.insShapes"], apart := false, laid := [("loop.example/s0023/impl.insShapes", laid_loop_example_s0023_impl_insShapes)] }
def FnExactValidCodeSaid : Prop := fnExactValidCodeRow.holds Tryd.pinned (OpenSpec.ofChange fnExactValidCodeSpec)

/-- ITS FALSE NEIGHBOUR: 'it returns false'. Refute it at one input. -/
def fnExactValidCodeWrong : ChangeSpec := { name := "fnExactValidCode", vars := ["loop.example/s0023/impl.insShapes"], fn := fun _ => fun
  | [d, g1] => { results := [.lit (.bool false)], args := [d], vars := [g1] }
  | _ => none }
def FnExactValidCodeWrongFalsely : Prop := fnExactValidCodeRow.holds Tryd.pinned (OpenSpec.ofChange fnExactValidCodeWrong)

/-- 'laws.FnExactEncodeCode': WHATEVER THE INPUT: true; the input reads as it did. -/
def fnExactEncodeCodeSpec : ChangeSpec := { name := "fnExactEncodeCode", vars := ["loop.example/s0023/impl.insShapes"], fn := fun _ => fun
  | [d, g1] => { results := [.lit (.bool true)], args := [d], vars := [g1] }
  | _ => none }
def fnExactEncodeCodeRow : OpenClaim := { program := "ytncjdeifnfbahacdoor", sum := "44b128a8dec331d88756e8043511a6db1347faa15293e8d0ae435e402aaeb019", func := "loop.example/s0023/laws.FnExactEncodeCode", spec := "fnExactEncodeCode", recurses := true, named := ["loop.example/s0023/impl.insShapes"], apart := false, laid := [("loop.example/s0023/impl.insShapes", laid_loop_example_s0023_impl_insShapes)] }
def FnExactEncodeCodeSaid : Prop := fnExactEncodeCodeRow.holds Tryd.pinned (OpenSpec.ofChange fnExactEncodeCodeSpec)

/-- ITS FALSE NEIGHBOUR: 'it returns false'. Refute it at one input. -/
def fnExactEncodeCodeWrong : ChangeSpec := { name := "fnExactEncodeCode", vars := ["loop.example/s0023/impl.insShapes"], fn := fun _ => fun
  | [d, g1] => { results := [.lit (.bool false)], args := [d], vars := [g1] }
  | _ => none }
def FnExactEncodeCodeWrongFalsely : Prop := fnExactEncodeCodeRow.holds Tryd.pinned (OpenSpec.ofChange fnExactEncodeCodeWrong)

/-- 'laws.FnExactDecodeCode': WHATEVER THE INPUT: true; the input reads as it did. -/
def fnExactDecodeCodeSpec : ChangeSpec := { name := "fnExactDecodeCode", vars := ["loop.example/s0023/impl.insShapes"], fn := fun _ => fun
  | [d, g1] => { results := [.lit (.bool true)], args := [d], vars := [g1] }
  | _ => none }
def fnExactDecodeCodeRow : OpenClaim := { program := "ytncjdeifnfbahacdoor", sum := "44b128a8dec331d88756e8043511a6db1347faa15293e8d0ae435e402aaeb019", func := "loop.example/s0023/laws.FnExactDecodeCode", spec := "fnExactDecodeCode", named := ["loop.example/s0023/impl.insShapes"], apart := false, laid := [("loop.example/s0023/impl.insShapes", laid_loop_example_s0023_impl_insShapes)] }
def FnExactDecodeCodeSaid : Prop := fnExactDecodeCodeRow.holds Tryd.pinned (OpenSpec.ofChange fnExactDecodeCodeSpec)

/-- ITS FALSE NEIGHBOUR: 'it returns false'. Refute it at one input. -/
def fnExactDecodeCodeWrong : ChangeSpec := { name := "fnExactDecodeCode", vars := ["loop.example/s0023/impl.insShapes"], fn := fun _ => fun
  | [d, g1] => { results := [.lit (.bool false)], args := [d], vars := [g1] }
  | _ => none }
def FnExactDecodeCodeWrongFalsely : Prop := fnExactDecodeCodeRow.holds Tryd.pinned (OpenSpec.ofChange fnExactDecodeCodeWrong)

/-- 'laws.FnExactValidState': WHATEVER THE INPUT: true; the input reads as it did. -/
def fnExactValidStateSpec : ChangeSpec := { name := "fnExactValidState", vars := ["loop.example/s0023/impl.insShapes"], fn := fun _ => fun
  | [d1, d2, d3, d4, g1] => { results := [.lit (.bool true)], args := [d1, d2, d3, d4], vars := [g1] }
  | _ => none }
def fnExactValidStateRow : OpenClaim := { program := "ytncjdeifnfbahacdoor", sum := "44b128a8dec331d88756e8043511a6db1347faa15293e8d0ae435e402aaeb019", func := "loop.example/s0023/laws.FnExactValidState", spec := "fnExactValidState", named := ["loop.example/s0023/impl.insShapes"], apart := false, laid := [("loop.example/s0023/impl.insShapes", laid_loop_example_s0023_impl_insShapes)] }
def FnExactValidStateSaid : Prop := fnExactValidStateRow.holds Tryd.pinned (OpenSpec.ofChange fnExactValidStateSpec)

/-- ITS FALSE NEIGHBOUR: 'it returns false'. Refute it at one input. -/
def fnExactValidStateWrong : ChangeSpec := { name := "fnExactValidState", vars := ["loop.example/s0023/impl.insShapes"], fn := fun _ => fun
  | [d1, d2, d3, d4, g1] => { results := [.lit (.bool false)], args := [d1, d2, d3, d4], vars := [g1] }
  | _ => none }
def FnExactValidStateWrongFalsely : Prop := fnExactValidStateRow.holds Tryd.pinned (OpenSpec.ofChange fnExactValidStateWrong)

/- THE SECOND FORM. 'bulk': how many values and letters a reading holds, each counted each time it is reached (what is shared counts as often as it is met; a slice's spare places count too). A statement '..UptoSaid' is the law's where the arguments, and the package variables that the reading takes, are together of bulk at most 1048576: NARROWER than '..Said'. Prove '..Said' where nothing that the law and all that it calls make is longer than what came in: it says more and counts as full. Else prove '..UptoSaid'. A law counts once. -/
mutual
def uptoBulk {H : Type} : DataW H → Nat
  | .lit (.string bytes) => bytes.length + 1
  | .lit _ => 1
  | .nil => 1
  | .ptr d => uptoBulk d + 1
  | .slice elems spare => uptoBulkAll elems + uptoBulkAll spare + 1
  | .agg parts => uptoBulkAll parts + 1
  | .iface _ d => uptoBulk d + 1
  | .map entries => uptoBulkEntries entries + 1
  | .held _ => 1
def uptoBulkAll {H : Type} : List (DataW H) → Nat
  | [] => 0
  | d :: r => uptoBulk d + uptoBulkAll r
def uptoBulkEntries {H : Type} : List (Lit × DataW H) → Nat
  | [] => 0
  | x :: r => uptoBulkEntry x + uptoBulkEntries r
def uptoBulkEntry {H : Type} : Lit × DataW H → Nat
  | (.string bytes, d) => bytes.length + uptoBulk d + 1
  | (_, d) => uptoBulk d + 1
 end
def uptoSmall : (H : Type) → List (DataW H) → Bool := fun _ ds => decide (uptoBulkAll ds ≤ 1048576)
def OpenSpec.upto (s : _root_.Go.ChangeSpec) : _root_.Go.OpenSpec := { _root_.Go.OpenSpec.ofChange s with cond := some uptoSmall }

/-- 'laws.FnExactValidCode', WHERE WHAT IT READS IS OF BULK AT MOST 1048576: true; the input reads as it did. -/
def fnExactValidCodeUptoRow : OpenClaim := { program := "ytncjdeifnfbahacdoor", sum := "44b128a8dec331d88756e8043511a6db1347faa15293e8d0ae435e402aaeb019", func := "loop.example/s0023/laws.FnExactValidCode", spec := "fnExactValidCode", named := ["loop.example/s0023/impl.insShapes"], apart := false, laid := [("loop.example/s0023/impl.insShapes", laid_loop_example_s0023_impl_insShapes)], narrowed := true }
def FnExactValidCodeUptoSaid : Prop := fnExactValidCodeUptoRow.holds Tryd.pinned (OpenSpec.upto fnExactValidCodeSpec)

/-- 'laws.FnExactEncodeCode', WHERE WHAT IT READS IS OF BULK AT MOST 1048576: true; the input reads as it did. -/
def fnExactEncodeCodeUptoRow : OpenClaim := { program := "ytncjdeifnfbahacdoor", sum := "44b128a8dec331d88756e8043511a6db1347faa15293e8d0ae435e402aaeb019", func := "loop.example/s0023/laws.FnExactEncodeCode", spec := "fnExactEncodeCode", recurses := true, named := ["loop.example/s0023/impl.insShapes"], apart := false, laid := [("loop.example/s0023/impl.insShapes", laid_loop_example_s0023_impl_insShapes)], narrowed := true }
def FnExactEncodeCodeUptoSaid : Prop := fnExactEncodeCodeUptoRow.holds Tryd.pinned (OpenSpec.upto fnExactEncodeCodeSpec)

/-- 'laws.FnExactDecodeCode', WHERE WHAT IT READS IS OF BULK AT MOST 1048576: true; the input reads as it did. -/
def fnExactDecodeCodeUptoRow : OpenClaim := { program := "ytncjdeifnfbahacdoor", sum := "44b128a8dec331d88756e8043511a6db1347faa15293e8d0ae435e402aaeb019", func := "loop.example/s0023/laws.FnExactDecodeCode", spec := "fnExactDecodeCode", named := ["loop.example/s0023/impl.insShapes"], apart := false, laid := [("loop.example/s0023/impl.insShapes", laid_loop_example_s0023_impl_insShapes)], narrowed := true }
def FnExactDecodeCodeUptoSaid : Prop := fnExactDecodeCodeUptoRow.holds Tryd.pinned (OpenSpec.upto fnExactDecodeCodeSpec)

/-- 'laws.FnExactValidState', WHERE WHAT IT READS IS OF BULK AT MOST 1048576: true; the input reads as it did. -/
def fnExactValidStateUptoRow : OpenClaim := { program := "ytncjdeifnfbahacdoor", sum := "44b128a8dec331d88756e8043511a6db1347faa15293e8d0ae435e402aaeb019", func := "loop.example/s0023/laws.FnExactValidState", spec := "fnExactValidState", named := ["loop.example/s0023/impl.insShapes"], apart := false, laid := [("loop.example/s0023/impl.insShapes", laid_loop_example_s0023_impl_insShapes)], narrowed := true }
def FnExactValidStateUptoSaid : Prop := fnExactValidStateUptoRow.holds Tryd.pinned (OpenSpec.upto fnExactValidStateSpec)

end Rows
end Go.Proofs.YtncjdeifnfbahacDoor
