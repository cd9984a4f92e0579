/-
  NARROWER THAN 'FOR EVERY INPUT', by the rows' own cells (each row's printed sentence says how): FnPrintParse: laid · FnReformat: laid.
  DERIVED. THE GIVEN ROWS OF THIS SEAT. 2 by the template 'for every input the law returns true; each argument reads behind the call as it read before'; 0 by the template 'total and deterministic' (their statements: YtbkajklninmhiaaGreatDoorTotals.lean).
  GIVEN WITH THE SEED: the statements are not yours to turn. If you find one false, say at which input.
  Laid BY PROGRAM, IN A SANDBOX (cutbox-rows.mjs): the forced cells as the released guide's own fill.sh prints them over the translation 25a210573761e94c… (all of the seat's roots in one cut). By AI agents, Wed Nov 11 2026. No macro, syntax, notation, axiom, sorry.
-/
import Derived.Test.YtbkajklninmhiaaGreatDoorChecked
import GoSem.Claim
import GoSem.ClaimJoined
import GoSem.ClaimMapViews
import Derived.JoinedTies
import Derived.KernelRfl
namespace Go.Proofs.YtbkajklninmhiaaGreatDoor
/- THE CELL 'sum', in the pinned program and in every row, IS THE sha256 OF THE DUMP (.gsa) THAT YtbkajklninmhiaaGreatDoorProg.lean LOADS. Nothing in Lean hashes anything: it is a label: what it is worth is what the hold of that sum in a sandbox is worth. -/
noncomputable def Tryz.pinned : Pinned := { name := "ytbkajklninmhiaagreatdoor", sum := "25a210573761e94ceb86367071401c21091921e1ccd13baa255ce835efe238bb", checked := Tryz.checked }
namespace Rows
def none {H : Type} : Left H := { results := [], args := [] }

/- WHAT THE LISTED PACKAGE-LEVEL VARIABLES READ AS WHEN THE CALL BEGINS. Each datum BY PROGRAM (the guide's laid-datum.mjs) off the statement by which the dump's own 'gosem.cut.vars' lays the variable. In a bare row this is a premise. The card (YtbkajklninmhiaaGreatDoorCards.lean) ties it to the program's text. -/
def laid_math_bits_deBruijn32tab {H : Type} : DataW H := .agg [.lit (.int .u8 0), .lit (.int .u8 1), .lit (.int .u8 28), .lit (.int .u8 2), .lit (.int .u8 29), .lit (.int .u8 14), .lit (.int .u8 24), .lit (.int .u8 3), .lit (.int .u8 30), .lit (.int .u8 22), .lit (.int .u8 20), .lit (.int .u8 15), .lit (.int .u8 25), .lit (.int .u8 17), .lit (.int .u8 4), .lit (.int .u8 8), .lit (.int .u8 31), .lit (.int .u8 27), .lit (.int .u8 13), .lit (.int .u8 23), .lit (.int .u8 21), .lit (.int .u8 19), .lit (.int .u8 16), .lit (.int .u8 7), .lit (.int .u8 26), .lit (.int .u8 12), .lit (.int .u8 18), .lit (.int .u8 6), .lit (.int .u8 11), .lit (.int .u8 5), .lit (.int .u8 10), .lit (.int .u8 9)]
def laid_math_bits_deBruijn64tab {H : Type} : DataW H := .agg [.lit (.int .u8 0), .lit (.int .u8 1), .lit (.int .u8 56), .lit (.int .u8 2), .lit (.int .u8 57), .lit (.int .u8 49), .lit (.int .u8 28), .lit (.int .u8 3), .lit (.int .u8 61), .lit (.int .u8 58), .lit (.int .u8 42), .lit (.int .u8 50), .lit (.int .u8 38), .lit (.int .u8 29), .lit (.int .u8 17), .lit (.int .u8 4), .lit (.int .u8 62), .lit (.int .u8 47), .lit (.int .u8 59), .lit (.int .u8 36), .lit (.int .u8 45), .lit (.int .u8 43), .lit (.int .u8 51), .lit (.int .u8 22), .lit (.int .u8 53), .lit (.int .u8 39), .lit (.int .u8 33), .lit (.int .u8 30), .lit (.int .u8 24), .lit (.int .u8 18), .lit (.int .u8 12), .lit (.int .u8 5), .lit (.int .u8 63), .lit (.int .u8 55), .lit (.int .u8 48), .lit (.int .u8 27), .lit (.int .u8 60), .lit (.int .u8 41), .lit (.int .u8 37), .lit (.int .u8 16), .lit (.int .u8 46), .lit (.int .u8 35), .lit (.int .u8 44), .lit (.int .u8 21), .lit (.int .u8 52), .lit (.int .u8 32), .lit (.int .u8 23), .lit (.int .u8 11), .lit (.int .u8 54), .lit (.int .u8 26), .lit (.int .u8 40), .lit (.int .u8 15), .lit (.int .u8 34), .lit (.int .u8 20), .lit (.int .u8 31), .lit (.int .u8 10), .lit (.int .u8 25), .lit (.int .u8 14), .lit (.int .u8 19), .lit (.int .u8 9), .lit (.int .u8 13), .lit (.int .u8 8), .lit (.int .u8 7), .lit (.int .u8 6)]
def laid_internal_strconv_uint64pow10 {H : Type} : DataW H := .agg [.lit (.int .u64 1), .lit (.int .u64 10), .lit (.int .u64 100), .lit (.int .u64 1000), .lit (.int .u64 10000), .lit (.int .u64 100000), .lit (.int .u64 1000000), .lit (.int .u64 10000000), .lit (.int .u64 100000000), .lit (.int .u64 1000000000), .lit (.int .u64 10000000000), .lit (.int .u64 100000000000), .lit (.int .u64 1000000000000), .lit (.int .u64 10000000000000), .lit (.int .u64 100000000000000), .lit (.int .u64 1000000000000000), .lit (.int .u64 10000000000000000), .lit (.int .u64 100000000000000000), .lit (.int .u64 1000000000000000000), .lit (.int .u64 10000000000000000000)]
def laid_loop_example_s0023_impl_tokenWords {H : Type} : DataW H := .agg [.lit (.string []), .lit (.string []), .lit (.string []), .lit (.string [59]), .lit (.string [44]), .lit (.string [40]), .lit (.string [41]), .lit (.string [46, 46]), .lit (.string [42]), .lit (.string [43]), .lit (.string [45]), .lit (.string [60]), .lit (.string [60, 61]), .lit (.string [61]), .lit (.string [97, 110, 100]), .lit (.string [111, 114]), .lit (.string [108, 101, 116]), .lit (.string [101, 97, 99, 104]), .lit (.string [101, 110, 100]), .lit (.string [115, 117, 109]), .lit (.string [110, 101, 118, 101, 114]), .lit (.string [97, 112, 97, 114, 116]), .lit (.string [108, 105, 102, 111]), .lit (.string [114, 105, 100, 101]), .lit (.string [115, 116, 114, 101, 97, 107]), .lit (.string [109, 105, 110]), .lit (.string [109, 97, 120]), .lit (.string [105, 102]), .lit (.string [102, 97, 108, 115, 101]), .lit (.string [116, 114, 117, 101]), .lit (.string [116, 105, 109, 101]), .lit (.string [108, 101, 103]), .lit (.string [119, 97, 105, 116]), .lit (.string [100, 105, 115, 116]), .lit (.string [108, 111, 97, 100]), .lit (.string [115, 105, 122, 101]), .lit (.string [111, 112, 101, 110]), .lit (.string [99, 108, 111, 115, 101]), .lit (.string [104, 111, 108, 100]), .lit (.string [114, 111, 111, 109]), .lit (.string [112, 111, 115]), .lit (.string [112, 105, 99, 107]), .lit (.string [100, 114, 111, 112]), .lit (.string [102, 114, 111, 109]), .lit (.string [105, 110]), .lit (.string [116, 104, 101, 110]), .lit (.string [109, 111, 115, 116]), .lit (.string [110, 111, 116]), .lit (.string [104, 97, 115]), .lit (.string [115, 107, 105, 108, 108])]
def laid_loop_example_s0023_impl_binStrengths {H : Type} : DataW H := .agg [.lit (.int .i64 5), .lit (.int .i64 4), .lit (.int .i64 4), .lit (.int .i64 3), .lit (.int .i64 3), .lit (.int .i64 3), .lit (.int .i64 2), .lit (.int .i64 1)]
def laid_loop_example_s0023_impl_opValMax {H : Type} : DataW H := .agg [.lit (.int .i64 0), .lit (.int .i64 999999999), .lit (.int .i64 0), .lit (.int .i64 12), .lit (.int .i64 15), .lit (.int .i64 15), .lit (.int .i64 1), .lit (.int .i64 0), .lit (.int .i64 0), .lit (.int .i64 7), .lit (.int .i64 2)]
def laid_loop_example_s0023_impl_itemShapes {H : Type} : DataW H := .agg [.agg [.lit (.bool false), .lit (.bool false), .lit (.bool false), .lit (.int .i64 0), .lit (.int .i64 0), .lit (.int .i64 0)], .agg [.lit (.bool true), .lit (.bool true), .lit (.bool false), .lit (.int .i64 0), .lit (.int .i64 0), .lit (.int .i64 0)], .agg [.lit (.bool false), .lit (.bool true), .lit (.bool false), .lit (.int .i64 0), .lit (.int .i64 0), .lit (.int .i64 0)], .agg [.lit (.bool false), .lit (.bool true), .lit (.bool false), .lit (.int .i64 0), .lit (.int .i64 0), .lit (.int .i64 0)], .agg [.lit (.bool false), .lit (.bool true), .lit (.bool false), .lit (.int .i64 3), .lit (.int .i64 3), .lit (.int .i64 3)], .agg [.lit (.bool false), .lit (.bool true), .lit (.bool true), .lit (.int .i64 0), .lit (.int .i64 0), .lit (.int .i64 0)], .agg [.lit (.bool false), .lit (.bool false), .lit (.bool false), .lit (.int .i64 1), .lit (.int .i64 1), .lit (.int .i64 0)], .agg [.lit (.bool false), .lit (.bool false), .lit (.bool false), .lit (.int .i64 2), .lit (.int .i64 0), .lit (.int .i64 0)], .agg [.lit (.bool false), .lit (.bool true), .lit (.bool false), .lit (.int .i64 0), .lit (.int .i64 3), .lit (.int .i64 3)], .agg [.lit (.bool false), .lit (.bool true), .lit (.bool false), .lit (.int .i64 2), .lit (.int .i64 0), .lit (.int .i64 0)]]

/-- 'laws.FnPrintParse': WHATEVER THE INPUT: true; the input reads as it did. -/
def fnPrintParseSpec : ChangeSpec := { name := "fnPrintParse", vars := ["loop.example/s0023/impl.itemShapes", "loop.example/s0023/impl.tokenWords", "loop.example/s0023/impl.opValMax", "loop.example/s0023/impl.binStrengths"], fn := fun _ => fun
  | [d, g1, g2, g3, g4] => { results := [.lit (.bool true)], args := [d], vars := [g1, g2, g3, g4] }
  | _ => none }
def fnPrintParseRow : OpenClaim := { program := "ytbkajklninmhiaagreatdoor", sum := "25a210573761e94ceb86367071401c21091921e1ccd13baa255ce835efe238bb", func := "loop.example/s0023/laws.FnPrintParse", spec := "fnPrintParse", unfollowed := true, recurses := true, named := ["loop.example/s0023/impl.itemShapes", "loop.example/s0023/impl.tokenWords", "loop.example/s0023/impl.opValMax", "internal/strconv.uint64pow10", "math/bits.deBruijn32tab", "math/bits.deBruijn64tab", "loop.example/s0023/impl.binStrengths"], apart := false, laid := [("math/bits.deBruijn32tab", laid_math_bits_deBruijn32tab), ("math/bits.deBruijn64tab", laid_math_bits_deBruijn64tab), ("internal/strconv.uint64pow10", laid_internal_strconv_uint64pow10), ("loop.example/s0023/impl.tokenWords", laid_loop_example_s0023_impl_tokenWords), ("loop.example/s0023/impl.binStrengths", laid_loop_example_s0023_impl_binStrengths), ("loop.example/s0023/impl.opValMax", laid_loop_example_s0023_impl_opValMax), ("loop.example/s0023/impl.itemShapes", laid_loop_example_s0023_impl_itemShapes)] }
def FnPrintParseSaid : Prop := fnPrintParseRow.holds Tryz.pinned (OpenSpec.ofChange fnPrintParseSpec)

/-- ITS FALSE NEIGHBOUR: 'it returns false'. Refute it at one input. -/
def fnPrintParseWrong : ChangeSpec := { name := "fnPrintParse", vars := ["loop.example/s0023/impl.itemShapes", "loop.example/s0023/impl.tokenWords", "loop.example/s0023/impl.opValMax", "loop.example/s0023/impl.binStrengths"], fn := fun _ => fun
  | [d, g1, g2, g3, g4] => { results := [.lit (.bool false)], args := [d], vars := [g1, g2, g3, g4] }
  | _ => none }
def FnPrintParseWrongFalsely : Prop := fnPrintParseRow.holds Tryz.pinned (OpenSpec.ofChange fnPrintParseWrong)

/-- 'laws.FnReformat': WHATEVER THE INPUT: true; the input reads as it did. -/
def fnReformatSpec : ChangeSpec := { name := "fnReformat", vars := ["loop.example/s0023/impl.tokenWords", "loop.example/s0023/impl.binStrengths", "loop.example/s0023/impl.itemShapes", "loop.example/s0023/impl.opValMax"], fn := fun _ => fun
  | [d, g1, g2, g3, g4] => { results := [.lit (.bool true)], args := [d], vars := [g1, g2, g3, g4] }
  | _ => none }
def fnReformatRow : OpenClaim := { program := "ytbkajklninmhiaagreatdoor", sum := "25a210573761e94ceb86367071401c21091921e1ccd13baa255ce835efe238bb", func := "loop.example/s0023/laws.FnReformat", spec := "fnReformat", unfollowed := true, recurses := true, named := ["loop.example/s0023/impl.tokenWords", "loop.example/s0023/impl.binStrengths", "loop.example/s0023/impl.itemShapes", "loop.example/s0023/impl.opValMax", "internal/strconv.uint64pow10", "math/bits.deBruijn32tab", "math/bits.deBruijn64tab"], apart := false, laid := [("math/bits.deBruijn32tab", laid_math_bits_deBruijn32tab), ("math/bits.deBruijn64tab", laid_math_bits_deBruijn64tab), ("internal/strconv.uint64pow10", laid_internal_strconv_uint64pow10), ("loop.example/s0023/impl.tokenWords", laid_loop_example_s0023_impl_tokenWords), ("loop.example/s0023/impl.binStrengths", laid_loop_example_s0023_impl_binStrengths), ("loop.example/s0023/impl.opValMax", laid_loop_example_s0023_impl_opValMax), ("loop.example/s0023/impl.itemShapes", laid_loop_example_s0023_impl_itemShapes)] }
def FnReformatSaid : Prop := fnReformatRow.holds Tryz.pinned (OpenSpec.ofChange fnReformatSpec)

/-- ITS FALSE NEIGHBOUR: 'it returns false'. Refute it at one input. -/
def fnReformatWrong : ChangeSpec := { name := "fnReformat", vars := ["loop.example/s0023/impl.tokenWords", "loop.example/s0023/impl.binStrengths", "loop.example/s0023/impl.itemShapes", "loop.example/s0023/impl.opValMax"], fn := fun _ => fun
  | [d, g1, g2, g3, g4] => { results := [.lit (.bool false)], args := [d], vars := [g1, g2, g3, g4] }
  | _ => none }
def FnReformatWrongFalsely : Prop := fnReformatRow.holds Tryz.pinned (OpenSpec.ofChange fnReformatWrong)

/- THE SECOND FORM. 'bulk': how many values and letters a reading holds, each counted each time it is reached (what is shared counts as often as it is met; a slice's spare places count too). A statement '..UptoSaid' is the law's where the arguments, and the package variables that the reading takes, are together of bulk at most 1048576: NARROWER than '..Said'. Prove '..Said' where nothing that the law and all that it calls make is longer than what came in: it says more and counts as full. Else prove '..UptoSaid'. A law counts once. -/
mutual
def uptoBulk {H : Type} : DataW H → Nat
  | .lit (.string bytes) => bytes.length + 1
  | .lit _ => 1
  | .nil => 1
  | .ptr d => uptoBulk d + 1
  | .slice elems spare => uptoBulkAll elems + uptoBulkAll spare + 1
  | .agg parts => uptoBulkAll parts + 1
  | .iface _ d => uptoBulk d + 1
  | .map entries => uptoBulkEntries entries + 1
  | .held _ => 1
def uptoBulkAll {H : Type} : List (DataW H) → Nat
  | [] => 0
  | d :: r => uptoBulk d + uptoBulkAll r
def uptoBulkEntries {H : Type} : List (Lit × DataW H) → Nat
  | [] => 0
  | x :: r => uptoBulkEntry x + uptoBulkEntries r
def uptoBulkEntry {H : Type} : Lit × DataW H → Nat
  | (.string bytes, d) => bytes.length + uptoBulk d + 1
  | (_, d) => uptoBulk d + 1
 end
def uptoSmall : (H : Type) → List (DataW H) → Bool := fun _ ds => decide (uptoBulkAll ds ≤ 1048576)
def OpenSpec.upto (s : _root_.Go.ChangeSpec) : _root_.Go.OpenSpec := { _root_.Go.OpenSpec.ofChange s with cond := some uptoSmall }

/-- 'laws.FnPrintParse', WHERE WHAT IT READS IS OF BULK AT MOST 1048576: true; the input reads as it did. -/
def fnPrintParseUptoRow : OpenClaim := { program := "ytbkajklninmhiaagreatdoor", sum := "25a210573761e94ceb86367071401c21091921e1ccd13baa255ce835efe238bb", func := "loop.example/s0023/laws.FnPrintParse", spec := "fnPrintParse", unfollowed := true, recurses := true, named := ["loop.example/s0023/impl.itemShapes", "loop.example/s0023/impl.tokenWords", "loop.example/s0023/impl.opValMax", "internal/strconv.uint64pow10", "math/bits.deBruijn32tab", "math/bits.deBruijn64tab", "loop.example/s0023/impl.binStrengths"], apart := false, laid := [("math/bits.deBruijn32tab", laid_math_bits_deBruijn32tab), ("math/bits.deBruijn64tab", laid_math_bits_deBruijn64tab), ("internal/strconv.uint64pow10", laid_internal_strconv_uint64pow10), ("loop.example/s0023/impl.tokenWords", laid_loop_example_s0023_impl_tokenWords), ("loop.example/s0023/impl.binStrengths", laid_loop_example_s0023_impl_binStrengths), ("loop.example/s0023/impl.opValMax", laid_loop_example_s0023_impl_opValMax), ("loop.example/s0023/impl.itemShapes", laid_loop_example_s0023_impl_itemShapes)], narrowed := true }
def FnPrintParseUptoSaid : Prop := fnPrintParseUptoRow.holds Tryz.pinned (OpenSpec.upto fnPrintParseSpec)

/-- 'laws.FnReformat', WHERE WHAT IT READS IS OF BULK AT MOST 1048576: true; the input reads as it did. -/
def fnReformatUptoRow : OpenClaim := { program := "ytbkajklninmhiaagreatdoor", sum := "25a210573761e94ceb86367071401c21091921e1ccd13baa255ce835efe238bb", func := "loop.example/s0023/laws.FnReformat", spec := "fnReformat", unfollowed := true, recurses := true, named := ["loop.example/s0023/impl.tokenWords", "loop.example/s0023/impl.binStrengths", "loop.example/s0023/impl.itemShapes", "loop.example/s0023/impl.opValMax", "internal/strconv.uint64pow10", "math/bits.deBruijn32tab", "math/bits.deBruijn64tab"], apart := false, laid := [("math/bits.deBruijn32tab", laid_math_bits_deBruijn32tab), ("math/bits.deBruijn64tab", laid_math_bits_deBruijn64tab), ("internal/strconv.uint64pow10", laid_internal_strconv_uint64pow10), ("loop.example/s0023/impl.tokenWords", laid_loop_example_s0023_impl_tokenWords), ("loop.example/s0023/impl.binStrengths", laid_loop_example_s0023_impl_binStrengths), ("loop.example/s0023/impl.opValMax", laid_loop_example_s0023_impl_opValMax), ("loop.example/s0023/impl.itemShapes", laid_loop_example_s0023_impl_itemShapes)], narrowed := true }
def FnReformatUptoSaid : Prop := fnReformatUptoRow.holds Tryz.pinned (OpenSpec.upto fnReformatSpec)

end Rows
end Go.Proofs.YtbkajklninmhiaaGreatDoor
