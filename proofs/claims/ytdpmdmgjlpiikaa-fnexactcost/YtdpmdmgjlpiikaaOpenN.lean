import Derived.Test.YtdpmdmgjlpiikaaProg
import Derived.Test.YtdpmdmgjlpiikaaMemS
import Derived.Test.YtdpmdmgjlpiikaaOpen
import Derived.ProofKit
import Derived.OpenShut
import Derived.Deep.Slices
import Derived.Lib.SmallJoins
import Derived.WideShapes
namespace Go.Proofs.Ytdpmdmgjlpiikaa.OpenN
open Go Go.RowKit Go.Deep Go.Proofs.Ytdpmdmgjlpiikaa.Mem
set_option linter.unusedVariables false

theorem nums {H : Type} {enc : TypeId × Value → H} {w : World} {spare : Nat → Bool} {held : Bool} {fuel : Nat} {v : Value} {y : DataW H × List MemPlace} (h : DataW.trod enc Try.prog w 0 spare held fuel 41 [v] = some y) :
    ∃ (a : Option Addr) (n c : Nat) (V : Nat → Int), v = .slice a n c ∧ n ≤ 9223372036854775807 ∧ NumsAt w a n V := by
  rcases open_slice Try.underlying41 h with ⟨hcs, -⟩ | ⟨a, len, cap, m, n, D, Pl, hcs, -, hl, hm, hmm, -, hx⟩
  · simp at hcs
    exact ⟨none, 0, 0, fun _ => 0, hcs, by omega, Or.inl rfl⟩
  · simp at hcs
    have hlm : len ≤ m := by rw [hmm]; split <;> omega
    rw [show Try.prog.cellsOf 2 = 1 from by kernel_rfl] at hx
    have hq : ∀ i, i < len → ∃ V : Int, w.cells? 0 (a.add (i * 1)) 1 = some (ci V) := fun i hi => by
      obtain ⟨cs', h1, h2⟩ := hx i (by omega)
      obtain ⟨z0, hz, -, -⟩ := DataW.trod_int Try.underlying2 h2
      subst hz
      exact ⟨z0, h1⟩
    obtain ⟨V, hV⟩ := choose_lt hq
    unfold maxLen at hm
    exact ⟨some a, len, cap, V, hcs, by omega, Open.slice_open (by omega) hV⟩
/-- An argument that is a list of numbers. -/
theorem numsArg {H : Type} {enc : TypeId × Value → H} {w : World} {spare : Nat → Bool} {held : Bool} {r : Reach} {b0 : Nat} {v : Value} {d : DataW H} {p : List MemPlace} (hv : Value.okWide Try.prog w r b0 41 v) (h : DataW.Trod enc Try.prog w 0 spare held 41 v d p) :
    ∃ (a : Option Addr) (n c : Nat) (V : Nat → Int), v = .slice a n c ∧ n ≤ 9223372036854775807 ∧ NumsAt w a n V := by
  obtain ⟨a, len, cap, rfl⟩ := WideShapes.okWide_slice Try.underlying41 hv
  obtain ⟨m, hm⟩ := h
  exact nums hm
end Go.Proofs.Ytdpmdmgjlpiikaa.OpenN
