import Derived.Test.YtdhnjkcebaahcaaDoorMem2
namespace Go.Proofs.YtdhnjkcebaahcaaDoor.Mem
open Go Go.RowKit
set_option linter.unusedVariables false

/-- An instruction. -/
structure Is where
  (p a b c : Int)
def Is.cells (v : Is) : List Value := [.int .i64 v.p, .int .i64 v.a, .int .i64 v.b, .int .i64 v.c]
theorem Is.at {w : World} {b o : Nat} {v : Is} (h : w.rangeAt b o v.cells) : w.cell? ⟨b, o, none⟩ = some (.int .i64 v.p) ∧ w.cell? ⟨b, o + 1, none⟩ = some (.int .i64 v.a) ∧ w.cell? ⟨b, o + 2, none⟩ = some (.int .i64 v.b) ∧ w.cell? ⟨b, o + 3, none⟩ = some (.int .i64 v.c) :=
  ⟨h 0 _ rfl, h 1 _ rfl, h 2 _ rfl, h 3 _ rfl⟩
theorem Is.len (v : Is) : v.cells.length = 4 := rfl
theorem Is.one (v : Is) : v.cells.toArray.all (·.oneCell') = true := by simp [Is.cells, Value.oneCell']
theorem there4 {w : World} {b o : Nat} (h : w.there b o 4) : ∃ v0 v1 v2 v3 : Value, w.cell? ⟨b, o, none⟩ = some v0 ∧ w.cell? ⟨b, o + 1, none⟩ = some v1 ∧ w.cell? ⟨b, o + 2, none⟩ = some v2 ∧ w.cell? ⟨b, o + 3, none⟩ = some v3 ∧ w.frozen? ⟨b, o, none⟩ = false ∧ w.frozen? ⟨b, o + 1, none⟩ = false ∧ w.frozen? ⟨b, o + 2, none⟩ = false ∧ w.frozen? ⟨b, o + 3, none⟩ = false := by
  obtain ⟨v0, e0⟩ := Option.isSome_iff_exists.1 (h 0 (by omega)).1
  obtain ⟨v1, e1⟩ := Option.isSome_iff_exists.1 (h 1 (by omega)).1
  obtain ⟨v2, e2⟩ := Option.isSome_iff_exists.1 (h 2 (by omega)).1
  obtain ⟨v3, e3⟩ := Option.isSome_iff_exists.1 (h 3 (by omega)).1
  exact ⟨v0, v1, v2, v3, e0, e1, e2, e3, (h 0 (by omega)).2, (h 1 (by omega)).2, (h 2 (by omega)).2, (h 3 (by omega)).2⟩
/-- A code. -/
structure Co where
  (R S : Int) (n1 n2 n3 : Nat) (B1 B2 B3 : Nat → Is)
/-- The three blocks of a code lie in the world. -/
structure CoAt (w : World) (a1 a2 a3 : Option Addr) (C : Co) : Prop where
  b1 : SliceAt w a1 C.n1 4 (fun i => (C.B1 i).cells)
  b2 : SliceAt w a2 C.n2 4 (fun i => (C.B2 i).cells)
  b3 : SliceAt w a3 C.n3 4 (fun i => (C.B3 i).cells)
theorem CoAt.below {w w' : World} {a1 a2 a3 : Option Addr} {C : Co} (h : CoAt w a1 a2 a3 C) (hb : Below w.heap.size w w') : CoAt w' a1 a2 a3 C := ⟨h.b1.below hb, h.b2.below hb, h.b3.below hb⟩
/-- A code as a value: two numbers and three slices. -/
def coV (C : Co) (a1 a2 a3 : Option Addr) (c1 c2 c3 : Nat) : Value := .agg #[.int .i64 C.R, .int .i64 C.S, .slice a1 C.n1 c1, .slice a2 C.n2 c2, .slice a3 C.n3 c3]
end Go.Proofs.YtdhnjkcebaahcaaDoor.Mem
