import Derived.Test.YtgooegcmgejfpaaDoorMem2
namespace Go.Proofs.YtgooegcmgejfpaaDoor.Mem
open Go Go.RowKit
set_option linter.unusedVariables false

/-- A number alone in its cell. -/
def ci (z : Int) : List Value := [.int .i64 z]
theorem ci.at {w : World} {b o : Nat} {z : Int} (h : w.rangeAt b o (ci z)) : w.cell? ⟨b, o, none⟩ = some (.int .i64 z) := h 0 _ rfl
theorem ci.len (z : Int) : (ci z).length = 1 := rfl
theorem there1 {w : World} {b o : Nat} (h : w.there b o 1) : ∃ v0 : Value, w.cell? ⟨b, o, none⟩ = some v0 ∧ w.frozen? ⟨b, o, none⟩ = false := by
  obtain ⟨v0, e0⟩ := Option.isSome_iff_exists.1 (h 0 (by omega)).1
  exact ⟨v0, e0, (h 0 (by omega)).2⟩
/-- A list of numbers. -/
def NumsAt (w : World) (a : Option Addr) (n : Nat) (L : Nat → Int) : Prop := SliceAt w a n 1 (fun i => ci (L i))
theorem NumsAt.below {w w' : World} {a : Option Addr} {n : Nat} {L : Nat → Int} (h : NumsAt w a n L) (hb : Below w.heap.size w w') : NumsAt w' a n L := SliceAt.below h hb
theorem NumsAt.at {w : World} {a : Option Addr} {n : Nat} {L : Nat → Int} (h : NumsAt w a n L) {i : Nat} (hi : i < n) : ∃ b off, a = some ⟨b, off, none⟩ ∧ w.cell? ⟨b, off + i, none⟩ = some (.int .i64 (L i)) := by
  rcases h with h | ⟨b, off, ha, h⟩
  · omega
  · have := ci.at (h i hi)
    rw [Nat.mul_one] at this
    exact ⟨b, off, ha, this⟩
/-- A state. -/
structure St where
  (p r d t s l : Int) (n1 n2 n3 : Nat) (L1 L2 L3 : Nat → Int)
/-- The three lists of a state lie in the world. -/
structure StAt (w : World) (a1 a2 a3 : Option Addr) (S : St) : Prop where
  s1 : NumsAt w a1 S.n1 S.L1
  s2 : NumsAt w a2 S.n2 S.L2
  s3 : NumsAt w a3 S.n3 S.L3
theorem StAt.below {w w' : World} {a1 a2 a3 : Option Addr} {S : St} (h : StAt w a1 a2 a3 S) (hb : Below w.heap.size w w') : StAt w' a1 a2 a3 S := ⟨h.s1.below hb, h.s2.below hb, h.s3.below hb⟩
/-- A state as a value: six numbers and three slices. -/
def stV (S : St) (a1 a2 a3 : Option Addr) (c1 c2 c3 : Nat) : Value := .agg #[.int .i64 S.p, .int .i64 S.r, .int .i64 S.d, .int .i64 S.t, .int .i64 S.s, .int .i64 S.l, .slice a1 S.n1 c1, .slice a2 S.n2 c2, .slice a3 S.n3 c3]
end Go.Proofs.YtgooegcmgejfpaaDoor.Mem
