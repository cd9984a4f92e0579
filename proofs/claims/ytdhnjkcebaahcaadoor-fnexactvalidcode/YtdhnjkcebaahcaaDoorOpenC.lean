import Derived.Test.YtdhnjkcebaahcaaDoorProg
import Derived.Test.YtdhnjkcebaahcaaDoorMemC
import Derived.ProofKit
import Derived.OpenShut
import Derived.Deep.Slices
import Derived.Lib.SmallJoins
namespace Go.Proofs.YtdhnjkcebaahcaaDoor.OpenC
open Go Go.RowKit Go.Deep Go.Proofs.YtdhnjkcebaahcaaDoor.Mem
set_option linter.unusedVariables false

theorem len4 {α : Type} {cs : List α} (h : cs.length = 4) : ∃ v0 v1 v2 v3, cs = [v0, v1, v2, v3] := by
  match cs, h with
  | [v0, v1, v2, v3], _ => exact ⟨v0, v1, v2, v3, rfl⟩
theorem len5 {α : Type} {cs : List α} (h : cs.length = 5) : ∃ v0 v1 v2 v3 v4, cs = [v0, v1, v2, v3, v4] := by
  match cs, h with
  | [v0, v1, v2, v3, v4], _ => exact ⟨v0, v1, v2, v3, v4, rfl⟩

theorem ins {H : Type} {enc : TypeId × Value → H} {w : World} {base : Nat} {spare : Nat → Bool} {held : Bool} {fuel : Nat} {cs : List Value} {x : DataW H × List MemPlace} (h : DataW.trod enc Tryd.prog w base spare held fuel 123 cs = some x) :
    ∃ z0 z1 z2 z3 : Int, cs = [.int .i64 z0, .int .i64 z1, .int .i64 z2, .int .i64 z3] := by
  obtain ⟨xs, m, -, -, hl, hn, hf⟩ := DataW.trod_struct Tryd.underlying123 h
  rw [show Tryd.prog.cellsOf 123 = 4 from by kernel_rfl] at hl
  obtain ⟨v0, v1, v2, v3, rfl⟩ := len4 hl
  have c1 : Tryd.prog.cellsOf 2 = 1 := by kernel_rfl
  have h0 := hf 0 _ rfl
  have h1 := hf 1 _ rfl
  have h2 := hf 2 _ rfl
  have h3 := hf 3 _ rfl
  obtain ⟨z0, hz0, -, -⟩ := DataW.trod_int Tryd.underlying2 (h0.trans (List.getElem?_eq_getElem (show 0 < xs.length by rw [hn]; simp)))
  obtain ⟨z1, hz1, -, -⟩ := DataW.trod_int Tryd.underlying2 (h1.trans (List.getElem?_eq_getElem (show 1 < xs.length by rw [hn]; simp)))
  obtain ⟨z2, hz2, -, -⟩ := DataW.trod_int Tryd.underlying2 (h2.trans (List.getElem?_eq_getElem (show 2 < xs.length by rw [hn]; simp)))
  obtain ⟨z3, hz3, -, -⟩ := DataW.trod_int Tryd.underlying2 (h3.trans (List.getElem?_eq_getElem (show 3 < xs.length by rw [hn]; simp)))
  simp [c1] at hz0
  subst hz0
  simp [c1] at hz1
  subst hz1
  simp [c1] at hz2
  subst hz2
  simp [c1] at hz3
  subst hz3
  exact ⟨z0, z1, z2, z3, rfl⟩
theorem slice_open {w : World} {a : Addr} {len k : Nat} {C : Nat → List Value} (hk : 0 < k) (h : ∀ i, i < len → w.cells? 0 (a.add (i * k)) k = some (C i)) : SliceAt w (some a) len k C := by
  by_cases h0 : len = 0
  · exact Or.inl h0
  right
  obtain ⟨b, off, spot⟩ := a
  obtain ⟨-, hl, hc⟩ := World.cells?_some (h 0 (by omega))
  have e0 := hc 0 hk
  rw [List.getElem?_eq_getElem (by omega)] at e0
  have hs : spot = none := by simpa [Addr.add] using World.cell?_spot e0
  subst hs
  refine ⟨b, off, rfl, fun i hi j v hv => ?_⟩
  obtain ⟨-, hl, hc⟩ := World.cells?_some (h i hi)
  have hj : j < k := by rw [← hl]; exact (List.getElem?_eq_some_iff.1 hv).1
  have := hc j hj
  rw [Deep.add_add, Addr.add_mid, ← Nat.add_assoc] at this
  rw [this]; exact hv


theorem inss {H : Type} {enc : TypeId × Value → H} {w : World} {spare : Nat → Bool} {held : Bool} {fuel : Nat} {v : Value} {y : DataW H × List MemPlace} (h : DataW.trod enc Tryd.prog w 0 spare held fuel 41 [v] = some y) :
    ∃ (a : Option Addr) (n c : Nat) (V : Nat → Is), v = .slice a n c ∧ n ≤ 9223372036854775807 ∧ SliceAt w a n 4 (fun i => (V i).cells) := by
  rcases open_slice Tryd.underlying41 h with ⟨hcs, -⟩ | ⟨a, len, cap, m, n, D, Pl, hcs, -, hl, hm, hmm, -, hx⟩
  · simp at hcs
    exact ⟨none, 0, 0, fun _ => ⟨0, 0, 0, 0⟩, hcs, by omega, Or.inl rfl⟩
  · simp at hcs
    have hlm : len ≤ m := by rw [hmm]; split <;> omega
    rw [show Tryd.prog.cellsOf 123 = 4 from by kernel_rfl] at hx
    have hq : ∀ i, i < len → ∃ V : Is, w.cells? 0 (a.add (i * 4)) 4 = some V.cells := fun i hi => by
      obtain ⟨cs', h1, h2⟩ := hx i (by omega)
      obtain ⟨z0, z1, z2, z3, rfl⟩ := ins h2
      exact ⟨⟨z0, z1, z2, z3⟩, h1⟩
    have : Inhabited Is := ⟨⟨0, 0, 0, 0⟩⟩
    obtain ⟨V, hV⟩ := choose_lt hq
    unfold maxLen at hm
    exact ⟨some a, len, cap, V, hcs, by omega, slice_open (by omega) hV⟩

set_option maxRecDepth 100000 in
/-- An argument that is a code. -/
theorem code {H : Type} {enc : TypeId × Value → H} {w : World} {spare : Nat → Bool} {held : Bool} {r : Reach} {b0 : Nat} {v : Value} {d : DataW H} {p : List MemPlace} (hv : Value.okWide Tryd.prog w r b0 43 v) (h : DataW.Trod enc Tryd.prog w 0 spare held 43 v d p) :
    ∃ (a1 a2 a3 : Option Addr) (c1 c2 c3 : Nat) (C : Co), v = coV C a1 a2 a3 c1 c2 c3 ∧ CoAt w a1 a2 a3 C ∧ C.n1 ≤ 9223372036854775807 ∧ C.n2 ≤ 9223372036854775807 ∧ C.n3 ≤ 9223372036854775807 := by
  obtain ⟨cs, rfl, hsz⟩ := WideShapes.okWide_struct Tryd.underlying43 hv
  obtain ⟨fuel, hf0⟩ := h
  obtain ⟨xs, m, -, -, hl, hn, hf⟩ := DataW.trod_struct Tryd.underlying43 hf0
  rw [show Tryd.prog.cellsOf 43 = 5 from by kernel_rfl] at hsz
  obtain ⟨v0, v1, v2, v3, v4, hcs⟩ := len5 (cs := cs.toList) (by simpa using hsz)
  obtain rfl : cs = #[v0, v1, v2, v3, v4] := by cases cs; simp_all
  have c1 : Tryd.prog.cellsOf 2 = 1 := by kernel_rfl
  have c2 : Tryd.prog.cellsOf 41 = 1 := by kernel_rfl
  have t0 := (hf 0 _ rfl).trans (List.getElem?_eq_getElem (show 0 < xs.length by rw [hn]; simp))
  have t1 := (hf 1 _ rfl).trans (List.getElem?_eq_getElem (show 1 < xs.length by rw [hn]; simp))
  have t2 := (hf 2 _ rfl).trans (List.getElem?_eq_getElem (show 2 < xs.length by rw [hn]; simp))
  have t3 := (hf 3 _ rfl).trans (List.getElem?_eq_getElem (show 3 < xs.length by rw [hn]; simp))
  have t4 := (hf 4 _ rfl).trans (List.getElem?_eq_getElem (show 4 < xs.length by rw [hn]; simp))
  simp [c1, c2, Value.cells] at t0 t1 t2 t3 t4
  obtain ⟨z0, hz0, -, -⟩ := DataW.trod_int Tryd.underlying2 t0
  obtain ⟨z1, hz1, -, -⟩ := DataW.trod_int Tryd.underlying2 t1
  simp at hz0 hz1
  subst hz0
  subst hz1
  obtain ⟨a1, n1, k1, V1, rfl, b1, s1⟩ := inss t2
  obtain ⟨a2, n2, k2, V2, rfl, b2, s2⟩ := inss t3
  obtain ⟨a3, n3, k3, V3, rfl, b3, s3⟩ := inss t4
  exact ⟨a1, a2, a3, k1, k2, k3, ⟨z0, z1, n1, n2, n3, V1, V2, V3⟩, rfl, ⟨s1, s2, s3⟩, b1, b2, b3⟩
end Go.Proofs.YtdhnjkcebaahcaaDoor.OpenC
