/-
  DERIVED. GIVEN WITH THE SEED: THE PROGRAM's TIES (one call each: nine closed facts by the kernel) AND EACH ROW's TIE, after the 31st guide's Derived/Test/Toyas{Tie, Card}.lean. No idea stands in it: it is a product of the set-up. Laid BY PROGRAM, IN A SANDBOX (cutbox-door.mjs). By AI agents, Wed Nov 11 2026. No macro, syntax, notation, axiom, sorry.
-/
import Derived.Test.YtcnmeogjdkpmkabDoorRows
import Derived.LaidByTextLater
import Derived.SevenTiedAt
import Derived.LaidSub
import Derived.LaidOnce
namespace Go.Proofs.YtcnmeogjdkpmkabDoor
open Go
set_option maxRecDepth 100000
theorem seatTie1 : Tryd.prog.laidByTextLater [("math/bits.deBruijn32tab", Rows.laid_math_bits_deBruijn32tab), ("math/bits.deBruijn64tab", Rows.laid_math_bits_deBruijn64tab), ("internal/strconv.uint64pow10", Rows.laid_internal_strconv_uint64pow10), ("loop.example/s0023/impl.tokenWords", Rows.laid_loop_example_s0023_impl_tokenWords), ("loop.example/s0023/impl.binStrengths", Rows.laid_loop_example_s0023_impl_binStrengths), ("loop.example/s0023/impl.opValMax", Rows.laid_loop_example_s0023_impl_opValMax), ("loop.example/s0023/impl.itemShapes", Rows.laid_loop_example_s0023_impl_itemShapes), ("loop.example/s0023/impl.itemTypes", Rows.laid_loop_example_s0023_impl_itemTypes), ("loop.example/s0023/impl.binSignatures", Rows.laid_loop_example_s0023_impl_binSignatures)] [.data, .data, .data, .data, .data, .data, .data, .data, .data] true :=
  Program.laidByTextLater_by_one 70 8 65 (by kernel_rfl) (by kernel_rfl) (by kernel_rfl) (by kernel_rfl) (by kernel_rfl) (by kernel_rfl) (fun _ _ => by kernel_rfl)
theorem noOwnUnsafe : Tryd.pinned.checked.prog.headLifts.contains "ownunsafe" = false := by kernel_rfl
theorem tie : Tryd.prog.laidByTextLater [("math/bits.deBruijn32tab", Rows.laid_math_bits_deBruijn32tab), ("math/bits.deBruijn64tab", Rows.laid_math_bits_deBruijn64tab), ("internal/strconv.uint64pow10", Rows.laid_internal_strconv_uint64pow10)] [.data, .data, .data] true :=
  Program.laidByTextLater.sub seatTie1 ["math/bits.deBruijn32tab", "math/bits.deBruijn64tab", "internal/strconv.uint64pow10"] (by kernel_rfl) (by kernel_rfl)
theorem fnExactPrintInst_row_tie : Rows.fnExactPrintInstRow.laidByTextAt .later Tryd.pinned [.data, .data, .data] true :=
  OpenClaim.laidByTextAt_later rfl rfl tie noOwnUnsafe
theorem tie2 : Tryd.prog.laidByTextLater [("loop.example/s0023/impl.tokenWords", Rows.laid_loop_example_s0023_impl_tokenWords), ("loop.example/s0023/impl.opValMax", Rows.laid_loop_example_s0023_impl_opValMax), ("loop.example/s0023/impl.itemShapes", Rows.laid_loop_example_s0023_impl_itemShapes)] [.data, .data, .data] true :=
  Program.laidByTextLater.sub seatTie1 ["loop.example/s0023/impl.tokenWords", "loop.example/s0023/impl.opValMax", "loop.example/s0023/impl.itemShapes"] (by kernel_rfl) (by kernel_rfl)
theorem fnExactValidProg_row_tie : Rows.fnExactValidProgRow.laidByTextAt .later Tryd.pinned [.data, .data, .data] true :=
  OpenClaim.laidByTextAt_later rfl rfl tie2 noOwnUnsafe
theorem tie3 : Tryd.prog.laidByTextLater [("loop.example/s0023/impl.tokenWords", Rows.laid_loop_example_s0023_impl_tokenWords), ("loop.example/s0023/impl.binStrengths", Rows.laid_loop_example_s0023_impl_binStrengths)] [.data, .data] true :=
  Program.laidByTextLater.sub seatTie1 ["loop.example/s0023/impl.tokenWords", "loop.example/s0023/impl.binStrengths"] (by kernel_rfl) (by kernel_rfl)
theorem fnExactParseProg_row_tie : Rows.fnExactParseProgRow.laidByTextAt .later Tryd.pinned [.data, .data] true :=
  OpenClaim.laidByTextAt_later rfl rfl tie3 noOwnUnsafe
theorem tie4 : Tryd.prog.laidByTextLater [("loop.example/s0023/impl.tokenWords", Rows.laid_loop_example_s0023_impl_tokenWords), ("loop.example/s0023/impl.opValMax", Rows.laid_loop_example_s0023_impl_opValMax), ("loop.example/s0023/impl.itemShapes", Rows.laid_loop_example_s0023_impl_itemShapes), ("loop.example/s0023/impl.itemTypes", Rows.laid_loop_example_s0023_impl_itemTypes), ("loop.example/s0023/impl.binSignatures", Rows.laid_loop_example_s0023_impl_binSignatures)] [.data, .data, .data, .data, .data] true :=
  Program.laidByTextLater.sub seatTie1 ["loop.example/s0023/impl.tokenWords", "loop.example/s0023/impl.opValMax", "loop.example/s0023/impl.itemShapes", "loop.example/s0023/impl.itemTypes", "loop.example/s0023/impl.binSignatures"] (by kernel_rfl) (by kernel_rfl)
theorem fnExactCheck_row_tie : Rows.fnExactCheckRow.laidByTextAt .later Tryd.pinned [.data, .data, .data, .data, .data] true :=
  OpenClaim.laidByTextAt_later rfl rfl tie4 noOwnUnsafe
theorem fnExactPrintInstUpto_row_tie : Rows.fnExactPrintInstUptoRow.laidByTextAt .later Tryd.pinned [.data, .data, .data] true :=
  OpenClaim.laidByTextAt_later rfl rfl tie noOwnUnsafe
theorem fnExactValidProgUpto_row_tie : Rows.fnExactValidProgUptoRow.laidByTextAt .later Tryd.pinned [.data, .data, .data] true :=
  OpenClaim.laidByTextAt_later rfl rfl tie2 noOwnUnsafe
theorem fnExactParseProgUpto_row_tie : Rows.fnExactParseProgUptoRow.laidByTextAt .later Tryd.pinned [.data, .data] true :=
  OpenClaim.laidByTextAt_later rfl rfl tie3 noOwnUnsafe
theorem fnExactCheckUpto_row_tie : Rows.fnExactCheckUptoRow.laidByTextAt .later Tryd.pinned [.data, .data, .data, .data, .data] true :=
  OpenClaim.laidByTextAt_later rfl rfl tie4 noOwnUnsafe
end Go.Proofs.YtcnmeogjdkpmkabDoor
