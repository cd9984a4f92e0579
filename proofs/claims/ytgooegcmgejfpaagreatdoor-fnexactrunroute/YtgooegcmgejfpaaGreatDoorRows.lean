/-
  NARROWER THAN 'FOR EVERY INPUT', by the rows' own cells (each row's printed sentence says how): FnExactStartState: laid · FnExactStepState: laid · FnExactFinishState: laid · FnExactRunRoute: laid.
  DERIVED. THE GIVEN ROWS OF THIS SEAT. 4 by the template 'for every input the law returns true; each argument reads behind the call as it read before'; 0 by the template 'total and deterministic' (their statements: YtgooegcmgejfpaaGreatDoorTotals.lean).
  GIVEN WITH THE SEED: the statements are not yours to turn. If you find one false, say at which input.
  Laid BY PROGRAM, IN A SANDBOX (cutbox-rows.mjs): the forced cells as the released guide's own fill.sh prints them over the translation d12b839558304fab… (all of the seat's roots in one cut). By AI agents, Wed Nov 11 2026. No macro, syntax, notation, axiom, sorry.
-/
import Derived.Test.YtgooegcmgejfpaaGreatDoorChecked
import GoSem.Claim
import GoSem.ClaimJoined
import GoSem.ClaimMapViews
import Derived.JoinedTies
import Derived.KernelRfl
namespace Go.Proofs.YtgooegcmgejfpaaGreatDoor
/- THE CELL 'sum', in the pinned program and in every row, IS THE sha256 OF THE DUMP (.gsa) THAT YtgooegcmgejfpaaGreatDoorProg.lean LOADS. Nothing in Lean hashes anything: it is a label: what it is worth is what the hold of that sum in a sandbox is worth. -/
noncomputable def Tryz.pinned : Pinned := { name := "ytgooegcmgejfpaagreatdoor", sum := "d12b839558304fab7b44a030cd8117a420728f8d8ef14c2a0391fe0bce653a3b", checked := Tryz.checked }
namespace Rows
def none {H : Type} : Left H := { results := [], args := [] }

/- WHAT THE LISTED PACKAGE-LEVEL VARIABLES READ AS WHEN THE CALL BEGINS. Each datum BY PROGRAM (the guide's laid-datum.mjs) off the statement by which the dump's own 'gosem.cut.vars' lays the variable. In a bare row this is a premise. The card (YtgooegcmgejfpaaGreatDoorCards.lean) ties it to the program's text. -/
def laid_loop_example_s0023_impl_insShapes {H : Type} : DataW H := .agg [.agg [.lit (.int .i64 0), .lit (.int .i64 0), .lit (.int .i64 0)], .agg [.lit (.int .i64 1), .lit (.int .i64 3), .lit (.int .i64 0)], .agg [.lit (.int .i64 1), .lit (.int .i64 2), .lit (.int .i64 0)], .agg [.lit (.int .i64 1), .lit (.int .i64 2), .lit (.int .i64 0)], .agg [.lit (.int .i64 1), .lit (.int .i64 2), .lit (.int .i64 0)], .agg [.lit (.int .i64 1), .lit (.int .i64 2), .lit (.int .i64 2)], .agg [.lit (.int .i64 1), .lit (.int .i64 2), .lit (.int .i64 2)], .agg [.lit (.int .i64 1), .lit (.int .i64 2), .lit (.int .i64 2)], .agg [.lit (.int .i64 1), .lit (.int .i64 2), .lit (.int .i64 2)], .agg [.lit (.int .i64 1), .lit (.int .i64 2), .lit (.int .i64 2)], .agg [.lit (.int .i64 1), .lit (.int .i64 2), .lit (.int .i64 2)], .agg [.lit (.int .i64 1), .lit (.int .i64 2), .lit (.int .i64 2)], .agg [.lit (.int .i64 1), .lit (.int .i64 2), .lit (.int .i64 2)], .agg [.lit (.int .i64 1), .lit (.int .i64 4), .lit (.int .i64 0)], .agg [.lit (.int .i64 1), .lit (.int .i64 4), .lit (.int .i64 0)], .agg [.lit (.int .i64 2), .lit (.int .i64 5), .lit (.int .i64 0)], .agg [.lit (.int .i64 2), .lit (.int .i64 5), .lit (.int .i64 0)], .agg [.lit (.int .i64 0), .lit (.int .i64 5), .lit (.int .i64 0)], .agg [.lit (.int .i64 2), .lit (.int .i64 6), .lit (.int .i64 0)], .agg [.lit (.int .i64 7), .lit (.int .i64 2), .lit (.int .i64 0)], .agg [.lit (.int .i64 1), .lit (.int .i64 7), .lit (.int .i64 0)]]

/-- 'laws.FnExactStartState': WHATEVER THE INPUT: true; the input reads as it did. -/
def fnExactStartStateSpec : ChangeSpec := { name := "fnExactStartState", vars := ["loop.example/s0023/impl.insShapes"], fn := fun _ => fun
  | [d1, d2, d3, g1] => { results := [.lit (.bool true)], args := [d1, d2, d3], vars := [g1] }
  | _ => none }
def fnExactStartStateRow : OpenClaim := { program := "ytgooegcmgejfpaagreatdoor", sum := "d12b839558304fab7b44a030cd8117a420728f8d8ef14c2a0391fe0bce653a3b", func := "loop.example/s0023/laws.FnExactStartState", spec := "fnExactStartState", unfollowed := true, recurses := true, named := ["loop.example/s0023/impl.insShapes"], apart := false, laid := [("loop.example/s0023/impl.insShapes", laid_loop_example_s0023_impl_insShapes)] }
def FnExactStartStateSaid : Prop := fnExactStartStateRow.holds Tryz.pinned (OpenSpec.ofChange fnExactStartStateSpec)

/-- ITS FALSE NEIGHBOUR: 'it returns false'. Refute it at one input. -/
def fnExactStartStateWrong : ChangeSpec := { name := "fnExactStartState", vars := ["loop.example/s0023/impl.insShapes"], fn := fun _ => fun
  | [d1, d2, d3, g1] => { results := [.lit (.bool false)], args := [d1, d2, d3], vars := [g1] }
  | _ => none }
def FnExactStartStateWrongFalsely : Prop := fnExactStartStateRow.holds Tryz.pinned (OpenSpec.ofChange fnExactStartStateWrong)

/-- 'laws.FnExactStepState': WHATEVER THE INPUT: true; the input reads as it did. -/
def fnExactStepStateSpec : ChangeSpec := { name := "fnExactStepState", vars := ["loop.example/s0023/impl.insShapes"], fn := fun _ => fun
  | [d1, d2, d3, d4, d5, g1] => { results := [.lit (.bool true)], args := [d1, d2, d3, d4, d5], vars := [g1] }
  | _ => none }
def fnExactStepStateRow : OpenClaim := { program := "ytgooegcmgejfpaagreatdoor", sum := "d12b839558304fab7b44a030cd8117a420728f8d8ef14c2a0391fe0bce653a3b", func := "loop.example/s0023/laws.FnExactStepState", spec := "fnExactStepState", unfollowed := true, recurses := true, named := ["loop.example/s0023/impl.insShapes"], apart := false, laid := [("loop.example/s0023/impl.insShapes", laid_loop_example_s0023_impl_insShapes)] }
def FnExactStepStateSaid : Prop := fnExactStepStateRow.holds Tryz.pinned (OpenSpec.ofChange fnExactStepStateSpec)

/-- ITS FALSE NEIGHBOUR: 'it returns false'. Refute it at one input. -/
def fnExactStepStateWrong : ChangeSpec := { name := "fnExactStepState", vars := ["loop.example/s0023/impl.insShapes"], fn := fun _ => fun
  | [d1, d2, d3, d4, d5, g1] => { results := [.lit (.bool false)], args := [d1, d2, d3, d4, d5], vars := [g1] }
  | _ => none }
def FnExactStepStateWrongFalsely : Prop := fnExactStepStateRow.holds Tryz.pinned (OpenSpec.ofChange fnExactStepStateWrong)

/-- 'laws.FnExactFinishState': WHATEVER THE INPUT: true; the input reads as it did. -/
def fnExactFinishStateSpec : ChangeSpec := { name := "fnExactFinishState", vars := ["loop.example/s0023/impl.insShapes"], fn := fun _ => fun
  | [d1, d2, d3, d4, g1] => { results := [.lit (.bool true)], args := [d1, d2, d3, d4], vars := [g1] }
  | _ => none }
def fnExactFinishStateRow : OpenClaim := { program := "ytgooegcmgejfpaagreatdoor", sum := "d12b839558304fab7b44a030cd8117a420728f8d8ef14c2a0391fe0bce653a3b", func := "loop.example/s0023/laws.FnExactFinishState", spec := "fnExactFinishState", unfollowed := true, recurses := true, named := ["loop.example/s0023/impl.insShapes"], apart := false, laid := [("loop.example/s0023/impl.insShapes", laid_loop_example_s0023_impl_insShapes)] }
def FnExactFinishStateSaid : Prop := fnExactFinishStateRow.holds Tryz.pinned (OpenSpec.ofChange fnExactFinishStateSpec)

/-- ITS FALSE NEIGHBOUR: 'it returns false'. Refute it at one input. -/
def fnExactFinishStateWrong : ChangeSpec := { name := "fnExactFinishState", vars := ["loop.example/s0023/impl.insShapes"], fn := fun _ => fun
  | [d1, d2, d3, d4, g1] => { results := [.lit (.bool false)], args := [d1, d2, d3, d4], vars := [g1] }
  | _ => none }
def FnExactFinishStateWrongFalsely : Prop := fnExactFinishStateRow.holds Tryz.pinned (OpenSpec.ofChange fnExactFinishStateWrong)

/-- 'laws.FnExactRunRoute': WHATEVER THE INPUT: true; the input reads as it did. -/
def fnExactRunRouteSpec : ChangeSpec := { name := "fnExactRunRoute", vars := ["loop.example/s0023/impl.insShapes"], fn := fun _ => fun
  | [d1, d2, d3, d4, g1] => { results := [.lit (.bool true)], args := [d1, d2, d3, d4], vars := [g1] }
  | _ => none }
def fnExactRunRouteRow : OpenClaim := { program := "ytgooegcmgejfpaagreatdoor", sum := "d12b839558304fab7b44a030cd8117a420728f8d8ef14c2a0391fe0bce653a3b", func := "loop.example/s0023/laws.FnExactRunRoute", spec := "fnExactRunRoute", unfollowed := true, recurses := true, named := ["loop.example/s0023/impl.insShapes"], apart := false, laid := [("loop.example/s0023/impl.insShapes", laid_loop_example_s0023_impl_insShapes)] }
def FnExactRunRouteSaid : Prop := fnExactRunRouteRow.holds Tryz.pinned (OpenSpec.ofChange fnExactRunRouteSpec)

/-- ITS FALSE NEIGHBOUR: 'it returns false'. Refute it at one input. -/
def fnExactRunRouteWrong : ChangeSpec := { name := "fnExactRunRoute", vars := ["loop.example/s0023/impl.insShapes"], fn := fun _ => fun
  | [d1, d2, d3, d4, g1] => { results := [.lit (.bool false)], args := [d1, d2, d3, d4], vars := [g1] }
  | _ => none }
def FnExactRunRouteWrongFalsely : Prop := fnExactRunRouteRow.holds Tryz.pinned (OpenSpec.ofChange fnExactRunRouteWrong)

/- THE SECOND FORM. 'bulk': how many values and letters a reading holds, each counted each time it is reached (what is shared counts as often as it is met; a slice's spare places count too). A statement '..UptoSaid' is the law's where the arguments, and the package variables that the reading takes, are together of bulk at most 1048576: NARROWER than '..Said'. Prove '..Said' where nothing that the law and all that it calls make is longer than what came in: it says more and counts as full. Else prove '..UptoSaid'. A law counts once. -/
mutual
def uptoBulk {H : Type} : DataW H → Nat
  | .lit (.string bytes) => bytes.length + 1
  | .lit _ => 1
  | .nil => 1
  | .ptr d => uptoBulk d + 1
  | .slice elems spare => uptoBulkAll elems + uptoBulkAll spare + 1
  | .agg parts => uptoBulkAll parts + 1
  | .iface _ d => uptoBulk d + 1
  | .map entries => uptoBulkEntries entries + 1
  | .held _ => 1
def uptoBulkAll {H : Type} : List (DataW H) → Nat
  | [] => 0
  | d :: r => uptoBulk d + uptoBulkAll r
def uptoBulkEntries {H : Type} : List (Lit × DataW H) → Nat
  | [] => 0
  | x :: r => uptoBulkEntry x + uptoBulkEntries r
def uptoBulkEntry {H : Type} : Lit × DataW H → Nat
  | (.string bytes, d) => bytes.length + uptoBulk d + 1
  | (_, d) => uptoBulk d + 1
 end
def uptoSmall : (H : Type) → List (DataW H) → Bool := fun _ ds => decide (uptoBulkAll ds ≤ 1048576)
def OpenSpec.upto (s : _root_.Go.ChangeSpec) : _root_.Go.OpenSpec := { _root_.Go.OpenSpec.ofChange s with cond := some uptoSmall }

/-- 'laws.FnExactStartState', WHERE WHAT IT READS IS OF BULK AT MOST 1048576: true; the input reads as it did. -/
def fnExactStartStateUptoRow : OpenClaim := { program := "ytgooegcmgejfpaagreatdoor", sum := "d12b839558304fab7b44a030cd8117a420728f8d8ef14c2a0391fe0bce653a3b", func := "loop.example/s0023/laws.FnExactStartState", spec := "fnExactStartState", unfollowed := true, recurses := true, named := ["loop.example/s0023/impl.insShapes"], apart := false, laid := [("loop.example/s0023/impl.insShapes", laid_loop_example_s0023_impl_insShapes)], narrowed := true }
def FnExactStartStateUptoSaid : Prop := fnExactStartStateUptoRow.holds Tryz.pinned (OpenSpec.upto fnExactStartStateSpec)

/-- 'laws.FnExactStepState', WHERE WHAT IT READS IS OF BULK AT MOST 1048576: true; the input reads as it did. -/
def fnExactStepStateUptoRow : OpenClaim := { program := "ytgooegcmgejfpaagreatdoor", sum := "d12b839558304fab7b44a030cd8117a420728f8d8ef14c2a0391fe0bce653a3b", func := "loop.example/s0023/laws.FnExactStepState", spec := "fnExactStepState", unfollowed := true, recurses := true, named := ["loop.example/s0023/impl.insShapes"], apart := false, laid := [("loop.example/s0023/impl.insShapes", laid_loop_example_s0023_impl_insShapes)], narrowed := true }
def FnExactStepStateUptoSaid : Prop := fnExactStepStateUptoRow.holds Tryz.pinned (OpenSpec.upto fnExactStepStateSpec)

/-- 'laws.FnExactFinishState', WHERE WHAT IT READS IS OF BULK AT MOST 1048576: true; the input reads as it did. -/
def fnExactFinishStateUptoRow : OpenClaim := { program := "ytgooegcmgejfpaagreatdoor", sum := "d12b839558304fab7b44a030cd8117a420728f8d8ef14c2a0391fe0bce653a3b", func := "loop.example/s0023/laws.FnExactFinishState", spec := "fnExactFinishState", unfollowed := true, recurses := true, named := ["loop.example/s0023/impl.insShapes"], apart := false, laid := [("loop.example/s0023/impl.insShapes", laid_loop_example_s0023_impl_insShapes)], narrowed := true }
def FnExactFinishStateUptoSaid : Prop := fnExactFinishStateUptoRow.holds Tryz.pinned (OpenSpec.upto fnExactFinishStateSpec)

/-- 'laws.FnExactRunRoute', WHERE WHAT IT READS IS OF BULK AT MOST 1048576: true; the input reads as it did. -/
def fnExactRunRouteUptoRow : OpenClaim := { program := "ytgooegcmgejfpaagreatdoor", sum := "d12b839558304fab7b44a030cd8117a420728f8d8ef14c2a0391fe0bce653a3b", func := "loop.example/s0023/laws.FnExactRunRoute", spec := "fnExactRunRoute", unfollowed := true, recurses := true, named := ["loop.example/s0023/impl.insShapes"], apart := false, laid := [("loop.example/s0023/impl.insShapes", laid_loop_example_s0023_impl_insShapes)], narrowed := true }
def FnExactRunRouteUptoSaid : Prop := fnExactRunRouteUptoRow.holds Tryz.pinned (OpenSpec.upto fnExactRunRouteSpec)

end Rows
end Go.Proofs.YtgooegcmgejfpaaGreatDoor
