/-
  DERIVED. GIVEN WITH THE SEED: THE PROGRAM's TIES (one call each: nine closed facts by the kernel) AND EACH ROW's TIE, after the 31st guide's Derived/Test/Toyas{Tie, Card}.lean. No idea stands in it: it is a product of the set-up. Laid BY PROGRAM, IN A SANDBOX (cutbox-door.mjs). By AI agents, Wed Nov 11 2026. No macro, syntax, notation, axiom, sorry.
-/
import Derived.Test.YtcnmeogjdkpmkabGreatDoorRows
import Derived.LaidByTextLater
import Derived.SevenTiedAt
import Derived.LaidSub
import Derived.LaidOnce
namespace Go.Proofs.YtcnmeogjdkpmkabGreatDoor
open Go
set_option maxRecDepth 100000
theorem seatTie1 : Tryz.prog.laidByTextLater [("math/bits.deBruijn32tab", Rows.laid_math_bits_deBruijn32tab), ("math/bits.deBruijn64tab", Rows.laid_math_bits_deBruijn64tab), ("internal/strconv.uint64pow10", Rows.laid_internal_strconv_uint64pow10), ("errors.errorType", Rows.laid_errors_errorType), ("loop.example/s0023/impl.tokenWords", Rows.laid_loop_example_s0023_impl_tokenWords), ("loop.example/s0023/impl.binStrengths", Rows.laid_loop_example_s0023_impl_binStrengths), ("loop.example/s0023/impl.opValMax", Rows.laid_loop_example_s0023_impl_opValMax), ("loop.example/s0023/impl.itemShapes", Rows.laid_loop_example_s0023_impl_itemShapes)] [.data, .data, .data, .handle, .data, .data, .data, .data] true :=
  Program.laidByTextLater_by_one 122 8 65 (by kernel_rfl) (by kernel_rfl) (by kernel_rfl) (by kernel_rfl) (by kernel_rfl) (by kernel_rfl) (fun _ _ => by kernel_rfl)
theorem seatTie2 : Tryz.prog.laidByTextLater [("loop.example/s0023/impl.tokenWords", Rows.laid_loop_example_s0023_impl_tokenWords), ("loop.example/s0023/impl.opValMax", Rows.laid_loop_example_s0023_impl_opValMax), ("loop.example/s0023/impl.itemShapes", Rows.laid_loop_example_s0023_impl_itemShapes), ("loop.example/s0023/impl.itemTypes", Rows.laid_loop_example_s0023_impl_itemTypes), ("loop.example/s0023/impl.binSignatures", Rows.laid_loop_example_s0023_impl_binSignatures), ("loop.example/s0023/impl.insShapes", Rows.laid_loop_example_s0023_impl_insShapes), ("loop.example/s0023/impl.opIns", Rows.laid_loop_example_s0023_impl_opIns), ("loop.example/s0023/impl.binIns", Rows.laid_loop_example_s0023_impl_binIns), ("loop.example/s0023/impl.ruleRegs", Rows.laid_loop_example_s0023_impl_ruleRegs), ("loop.example/s0023/impl.ruleSlots", Rows.laid_loop_example_s0023_impl_ruleSlots)] [.data, .data, .data, .data, .data, .data, .data, .data, .data, .data] true :=
  Program.laidByTextLater_by_one 122 8 65 (by kernel_rfl) (by kernel_rfl) (by kernel_rfl) (by kernel_rfl) (by kernel_rfl) (by kernel_rfl) (fun _ _ => by kernel_rfl)
theorem noOwnUnsafe : Tryz.pinned.checked.prog.headLifts.contains "ownunsafe" = false := by kernel_rfl
theorem tie : Tryz.prog.laidByTextLater [("errors.errorType", Rows.laid_errors_errorType)] [.handle] true :=
  Program.laidByTextLater.sub seatTie1 ["errors.errorType"] (by kernel_rfl) (by kernel_rfl)
theorem fnExactParseInst_row_tie : Rows.fnExactParseInstRow.laidByTextAt .later Tryz.pinned [.handle] true :=
  OpenClaim.laidByTextAt_later rfl rfl tie noOwnUnsafe
theorem tie2 : Tryz.prog.laidByTextLater [("math/bits.deBruijn32tab", Rows.laid_math_bits_deBruijn32tab), ("math/bits.deBruijn64tab", Rows.laid_math_bits_deBruijn64tab), ("internal/strconv.uint64pow10", Rows.laid_internal_strconv_uint64pow10), ("loop.example/s0023/impl.tokenWords", Rows.laid_loop_example_s0023_impl_tokenWords), ("loop.example/s0023/impl.binStrengths", Rows.laid_loop_example_s0023_impl_binStrengths), ("loop.example/s0023/impl.opValMax", Rows.laid_loop_example_s0023_impl_opValMax), ("loop.example/s0023/impl.itemShapes", Rows.laid_loop_example_s0023_impl_itemShapes)] [.data, .data, .data, .data, .data, .data, .data] true :=
  Program.laidByTextLater.sub seatTie1 ["math/bits.deBruijn32tab", "math/bits.deBruijn64tab", "internal/strconv.uint64pow10", "loop.example/s0023/impl.tokenWords", "loop.example/s0023/impl.binStrengths", "loop.example/s0023/impl.opValMax", "loop.example/s0023/impl.itemShapes"] (by kernel_rfl) (by kernel_rfl)
theorem fnExactPrintProg_row_tie : Rows.fnExactPrintProgRow.laidByTextAt .later Tryz.pinned [.data, .data, .data, .data, .data, .data, .data] true :=
  OpenClaim.laidByTextAt_later rfl rfl tie2 noOwnUnsafe
theorem tie3 : Tryz.prog.laidByTextLater [("loop.example/s0023/impl.tokenWords", Rows.laid_loop_example_s0023_impl_tokenWords), ("loop.example/s0023/impl.opValMax", Rows.laid_loop_example_s0023_impl_opValMax), ("loop.example/s0023/impl.itemShapes", Rows.laid_loop_example_s0023_impl_itemShapes), ("loop.example/s0023/impl.itemTypes", Rows.laid_loop_example_s0023_impl_itemTypes), ("loop.example/s0023/impl.binSignatures", Rows.laid_loop_example_s0023_impl_binSignatures), ("loop.example/s0023/impl.insShapes", Rows.laid_loop_example_s0023_impl_insShapes), ("loop.example/s0023/impl.opIns", Rows.laid_loop_example_s0023_impl_opIns), ("loop.example/s0023/impl.binIns", Rows.laid_loop_example_s0023_impl_binIns), ("loop.example/s0023/impl.ruleRegs", Rows.laid_loop_example_s0023_impl_ruleRegs), ("loop.example/s0023/impl.ruleSlots", Rows.laid_loop_example_s0023_impl_ruleSlots)] [.data, .data, .data, .data, .data, .data, .data, .data, .data, .data] true :=
  Program.laidByTextLater.sub seatTie2 ["loop.example/s0023/impl.tokenWords", "loop.example/s0023/impl.opValMax", "loop.example/s0023/impl.itemShapes", "loop.example/s0023/impl.itemTypes", "loop.example/s0023/impl.binSignatures", "loop.example/s0023/impl.insShapes", "loop.example/s0023/impl.opIns", "loop.example/s0023/impl.binIns", "loop.example/s0023/impl.ruleRegs", "loop.example/s0023/impl.ruleSlots"] (by kernel_rfl) (by kernel_rfl)
theorem fnExactCompile_row_tie : Rows.fnExactCompileRow.laidByTextAt .later Tryz.pinned [.data, .data, .data, .data, .data, .data, .data, .data, .data, .data] true :=
  OpenClaim.laidByTextAt_later rfl rfl tie3 noOwnUnsafe
theorem fnExactParseInstUpto_row_tie : Rows.fnExactParseInstUptoRow.laidByTextAt .later Tryz.pinned [.handle] true :=
  OpenClaim.laidByTextAt_later rfl rfl tie noOwnUnsafe
theorem fnExactPrintProgUpto_row_tie : Rows.fnExactPrintProgUptoRow.laidByTextAt .later Tryz.pinned [.data, .data, .data, .data, .data, .data, .data] true :=
  OpenClaim.laidByTextAt_later rfl rfl tie2 noOwnUnsafe
theorem fnExactCompileUpto_row_tie : Rows.fnExactCompileUptoRow.laidByTextAt .later Tryz.pinned [.data, .data, .data, .data, .data, .data, .data, .data, .data, .data] true :=
  OpenClaim.laidByTextAt_later rfl rfl tie3 noOwnUnsafe
end Go.Proofs.YtcnmeogjdkpmkabGreatDoor
