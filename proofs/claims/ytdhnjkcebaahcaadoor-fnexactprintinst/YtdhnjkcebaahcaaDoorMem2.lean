import Derived.Test.YtdhnjkcebaahcaaDoorMem
namespace Go.Proofs.YtdhnjkcebaahcaaDoor.Mem
open Go Go.RowKit
set_option linter.unusedVariables false

theorem below_alloc' {w W : World} (h : Below w.heap.size w W) (o : Obj) : Below w.heap.size w (W.alloc o) := h.alloc h.size o
theorem cell_alloc' {w : World} {p : Addr} {v : Value} (h : w.cell? p = some v) (o : Obj) : (w.alloc o).cell? p = some v := by
  rw [World.cell?_alloc_lt _ _ _ (World.block_lt_of_cell? w _ h)]; exact h
end Go.Proofs.YtdhnjkcebaahcaaDoor.Mem
