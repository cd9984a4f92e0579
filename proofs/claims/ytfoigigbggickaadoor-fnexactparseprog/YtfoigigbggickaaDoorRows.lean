/-
  NARROWER THAN 'FOR EVERY INPUT', by the rows' own cells (each row's printed sentence says how): FnExactParseProg: laid.
  DERIVED. THE GIVEN ROWS OF THIS SEAT. 1 by the template 'for every input the law returns true; each argument reads behind the call as it read before'; 0 by the template 'total and deterministic' (their statements: YtfoigigbggickaaDoorTotals.lean).
  GIVEN WITH THE SEED: the statements are not yours to turn. If you find one false, say at which input.
  Laid BY PROGRAM, IN A SANDBOX (cutbox-rows.mjs): the forced cells as the released guide's own fill.sh prints them over the translation 10a71082f34b2316… (all of the seat's roots in one cut). By AI agents, Wed Nov 11 2026. No macro, syntax, notation, axiom, sorry.
-/
import Derived.Test.YtfoigigbggickaaDoorChecked
import GoSem.Claim
import GoSem.ClaimJoined
import GoSem.ClaimMapViews
import Derived.JoinedTies
import Derived.KernelRfl
namespace Go.Proofs.YtfoigigbggickaaDoor
/- THE CELL 'sum', in the pinned program and in every row, IS THE sha256 OF THE DUMP (.gsa) THAT YtfoigigbggickaaDoorProg.lean LOADS. Nothing in Lean hashes anything: it is a label: what it is worth is what the hold of that sum in a sandbox is worth. -/
noncomputable def Tryd.pinned : Pinned := { name := "ytfoigigbggickaadoor", sum := "10a71082f34b2316facb17116875d575aab84a9ae11364068dd6c2e31e1eab26", checked := Tryd.checked }
namespace Rows
def none {H : Type} : Left H := { results := [], args := [] }

/- WHAT THE LISTED PACKAGE-LEVEL VARIABLES READ AS WHEN THE CALL BEGINS. Each datum BY PROGRAM (the guide's laid-datum.mjs) off the statement by which the dump's own 'gosem.cut.vars' lays the variable. In a bare row this is a premise. The card (YtfoigigbggickaaDoorCards.lean) ties it to the program's text. -/
def laid_loop_example_s0023_impl_tokenWords {H : Type} : DataW H := .agg [.lit (.string []), .lit (.string []), .lit (.string []), .lit (.string [59]), .lit (.string [44]), .lit (.string [40]), .lit (.string [41]), .lit (.string [46, 46]), .lit (.string [42]), .lit (.string [43]), .lit (.string [45]), .lit (.string [60]), .lit (.string [60, 61]), .lit (.string [61]), .lit (.string [97, 110, 100]), .lit (.string [111, 114]), .lit (.string [108, 101, 116]), .lit (.string [101, 97, 99, 104]), .lit (.string [101, 110, 100]), .lit (.string [115, 117, 109]), .lit (.string [110, 101, 118, 101, 114]), .lit (.string [97, 112, 97, 114, 116]), .lit (.string [108, 105, 102, 111]), .lit (.string [114, 105, 100, 101]), .lit (.string [115, 116, 114, 101, 97, 107]), .lit (.string [109, 105, 110]), .lit (.string [109, 97, 120]), .lit (.string [105, 102]), .lit (.string [102, 97, 108, 115, 101]), .lit (.string [116, 114, 117, 101]), .lit (.string [116, 105, 109, 101]), .lit (.string [108, 101, 103]), .lit (.string [119, 97, 105, 116]), .lit (.string [100, 105, 115, 116]), .lit (.string [108, 111, 97, 100]), .lit (.string [115, 105, 122, 101]), .lit (.string [111, 112, 101, 110]), .lit (.string [99, 108, 111, 115, 101]), .lit (.string [104, 111, 108, 100]), .lit (.string [114, 111, 111, 109]), .lit (.string [112, 111, 115]), .lit (.string [112, 105, 99, 107]), .lit (.string [100, 114, 111, 112]), .lit (.string [102, 114, 111, 109]), .lit (.string [105, 110]), .lit (.string [116, 104, 101, 110]), .lit (.string [109, 111, 115, 116]), .lit (.string [110, 111, 116]), .lit (.string [104, 97, 115]), .lit (.string [115, 107, 105, 108, 108])]
def laid_loop_example_s0023_impl_binStrengths {H : Type} : DataW H := .agg [.lit (.int .i64 5), .lit (.int .i64 4), .lit (.int .i64 4), .lit (.int .i64 3), .lit (.int .i64 3), .lit (.int .i64 3), .lit (.int .i64 2), .lit (.int .i64 1)]

/-- 'laws.FnExactParseProg': WHATEVER THE INPUT: true; the input reads as it did. -/
def fnExactParseProgSpec : ChangeSpec := { name := "fnExactParseProg", vars := ["loop.example/s0023/impl.tokenWords", "loop.example/s0023/impl.binStrengths"], fn := fun _ => fun
  | [d, g1, g2] => { results := [.lit (.bool true)], args := [d], vars := [g1, g2] }
  | _ => none }
def fnExactParseProgRow : OpenClaim := { program := "ytfoigigbggickaadoor", sum := "10a71082f34b2316facb17116875d575aab84a9ae11364068dd6c2e31e1eab26", func := "loop.example/s0023/laws.FnExactParseProg", spec := "fnExactParseProg", unfollowed := true, recurses := true, named := ["loop.example/s0023/impl.tokenWords", "loop.example/s0023/impl.binStrengths"], apart := false, laid := [("loop.example/s0023/impl.tokenWords", laid_loop_example_s0023_impl_tokenWords), ("loop.example/s0023/impl.binStrengths", laid_loop_example_s0023_impl_binStrengths)] }
def FnExactParseProgSaid : Prop := fnExactParseProgRow.holds Tryd.pinned (OpenSpec.ofChange fnExactParseProgSpec)

/-- ITS FALSE NEIGHBOUR: 'it returns false'. Refute it at one input. -/
def fnExactParseProgWrong : ChangeSpec := { name := "fnExactParseProg", vars := ["loop.example/s0023/impl.tokenWords", "loop.example/s0023/impl.binStrengths"], fn := fun _ => fun
  | [d, g1, g2] => { results := [.lit (.bool false)], args := [d], vars := [g1, g2] }
  | _ => none }
def FnExactParseProgWrongFalsely : Prop := fnExactParseProgRow.holds Tryd.pinned (OpenSpec.ofChange fnExactParseProgWrong)

/- THE SECOND FORM. 'bulk': how many values and letters a reading holds, each counted each time it is reached (what is shared counts as often as it is met; a slice's spare places count too). A statement '..UptoSaid' is the law's where the arguments, and the package variables that the reading takes, are together of bulk at most 1048576: NARROWER than '..Said'. Prove '..Said' where nothing that the law and all that it calls make is longer than what came in: it says more and counts as full. Else prove '..UptoSaid'. A law counts once. -/
mutual
def uptoBulk {H : Type} : DataW H → Nat
  | .lit (.string bytes) => bytes.length + 1
  | .lit _ => 1
  | .nil => 1
  | .ptr d => uptoBulk d + 1
  | .slice elems spare => uptoBulkAll elems + uptoBulkAll spare + 1
  | .agg parts => uptoBulkAll parts + 1
  | .iface _ d => uptoBulk d + 1
  | .map entries => uptoBulkEntries entries + 1
  | .held _ => 1
def uptoBulkAll {H : Type} : List (DataW H) → Nat
  | [] => 0
  | d :: r => uptoBulk d + uptoBulkAll r
def uptoBulkEntries {H : Type} : List (Lit × DataW H) → Nat
  | [] => 0
  | x :: r => uptoBulkEntry x + uptoBulkEntries r
def uptoBulkEntry {H : Type} : Lit × DataW H → Nat
  | (.string bytes, d) => bytes.length + uptoBulk d + 1
  | (_, d) => uptoBulk d + 1
 end
def uptoSmall : (H : Type) → List (DataW H) → Bool := fun _ ds => decide (uptoBulkAll ds ≤ 1048576)
def OpenSpec.upto (s : _root_.Go.ChangeSpec) : _root_.Go.OpenSpec := { _root_.Go.OpenSpec.ofChange s with cond := some uptoSmall }

/-- 'laws.FnExactParseProg', WHERE WHAT IT READS IS OF BULK AT MOST 1048576: true; the input reads as it did. -/
def fnExactParseProgUptoRow : OpenClaim := { program := "ytfoigigbggickaadoor", sum := "10a71082f34b2316facb17116875d575aab84a9ae11364068dd6c2e31e1eab26", func := "loop.example/s0023/laws.FnExactParseProg", spec := "fnExactParseProg", unfollowed := true, recurses := true, named := ["loop.example/s0023/impl.tokenWords", "loop.example/s0023/impl.binStrengths"], apart := false, laid := [("loop.example/s0023/impl.tokenWords", laid_loop_example_s0023_impl_tokenWords), ("loop.example/s0023/impl.binStrengths", laid_loop_example_s0023_impl_binStrengths)], narrowed := true }
def FnExactParseProgUptoSaid : Prop := fnExactParseProgUptoRow.holds Tryd.pinned (OpenSpec.upto fnExactParseProgSpec)

end Rows
end Go.Proofs.YtfoigigbggickaaDoor
