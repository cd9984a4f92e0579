import Derived.Test.YtgooegcmgejfpaaGreatDoorGr40
namespace Go.Proofs.YtgooegcmgejfpaaGreatDoor.Mac
open Go Go.RowKit Go.Proofs.YtgooegcmgejfpaaGreatDoor.Mem
set_option linter.unusedVariables false
set_option linter.unusedSimpArgs false

/-- The lists of a state lie outside block g. -/
def FarS (g : Nat) (a1 a2 a3 : Option Addr) (S : St) : Prop :=
  (S.n1 = 0 ∨ ∀ x, a1 = some x → x.block ≠ g) ∧ (S.n2 = 0 ∨ ∀ x, a2 = some x → x.block ≠ g) ∧ (S.n3 = 0 ∨ ∀ x, a3 = some x → x.block ≠ g)
theorem far_new {B g : Nat} {a1 a2 a3 : Option Addr} {S : St} (h : Fre B a1 a2 a3 S) (hg : g < B) : FarS g a1 a2 a3 S :=
  ⟨h.1.imp id fun h x hx => by have := h x hx; omega, h.2.1.imp id fun h x hx => by have := h x hx; omega, h.2.2.imp id fun h x hx => by have := h x hx; omega⟩
theorem far1 {w : World} {a : Option Addr} {n : Nat} {L : Nat → Int} (h : NumsAt w a n L) : n = 0 ∨ ∀ x, a = some x → x.block ≠ w.heap.size := by
  by_cases hn : n = 0
  · exact Or.inl hn
  · obtain ⟨b, off, rfl, hc⟩ := h.at (i := 0) (by omega)
    exact Or.inr fun x hx => by cases hx; exact Nat.ne_of_lt (lt_of_cell hc)
theorem far_lt {w : World} {a1 a2 a3 : Option Addr} {S : St} (h : StAt w a1 a2 a3 S) : FarS w.heap.size a1 a2 a3 S := ⟨far1 h.s1, far1 h.s2, far1 h.s3⟩
theorem nums_row {w : World} {a : Option Addr} {n g : Nat} {L : Nat → Int} (h : NumsAt w a n L) (hne : n = 0 ∨ ∀ x, a = some x → x.block ≠ g) (cs : Array Value) : NumsAt (w.setRow g cs) a n L := by
  rcases h with h | ⟨b, off, rfl, h⟩
  · exact Or.inl h
  · rcases hne with h0 | hne
    · exact Or.inl h0
    · refine Or.inr ⟨b, off, rfl, fun i hi => fun j v hv => ?_⟩
      exact (cell_setRow_other w g cs _ (show b ≠ g from hne _ rfl)).trans (h i hi j v hv)
theorem st_row {w : World} {a1 a2 a3 : Option Addr} {S : St} {g : Nat} (h : StAt w a1 a2 a3 S) (hf : FarS g a1 a2 a3 S) (cs : Array Value) : StAt (w.setRow g cs) a1 a2 a3 S := ⟨nums_row h.s1 hf.1 cs, nums_row h.s2 hf.2.1 cs, nums_row h.s3 hf.2.2 cs⟩
theorem step_len (C : Co) (I : In) (v : Int) (S : St) (n : Int) : (stepB C I v S n).n1 ≤ S.n1 ∧ (stepB C I v S n).n2 ≤ S.n2 ∧ (stepB C I v S n).n3 ≤ S.n3 := by
  unfold stepB
  repeat' split
  all_goals first | exact ⟨Nat.zero_le _, Nat.zero_le _, Nat.zero_le _⟩ | exact ⟨Nat.le_refl _, Nat.le_refl _, Nat.le_refl _⟩
end Go.Proofs.YtgooegcmgejfpaaGreatDoor.Mac
