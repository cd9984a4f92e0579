import Derived.Test.YtgooegcmgejfpaaDoorProg
import Derived.Test.YtgooegcmgejfpaaDoorMemS
import Derived.Test.YtgooegcmgejfpaaDoorOpenC
import Derived.ProofKit
import Derived.OpenShut
import Derived.Deep.Slices
import Derived.Lib.SmallJoins
namespace Go.Proofs.YtgooegcmgejfpaaDoor.OpenS
open Go Go.RowKit Go.Deep Go.Proofs.YtgooegcmgejfpaaDoor.Mem
set_option linter.unusedVariables false

theorem len9 {α : Type} {cs : List α} (h : cs.length = 9) : ∃ v0 v1 v2 v3 v4 v5 v6 v7 v8, cs = [v0, v1, v2, v3, v4, v5, v6, v7, v8] := by
  match cs, h with
  | [v0, v1, v2, v3, v4, v5, v6, v7, v8], _ => exact ⟨v0, v1, v2, v3, v4, v5, v6, v7, v8, rfl⟩
theorem nums {H : Type} {enc : TypeId × Value → H} {w : World} {spare : Nat → Bool} {held : Bool} {fuel : Nat} {v : Value} {y : DataW H × List MemPlace} (h : DataW.trod enc Tryd.prog w 0 spare held fuel 30 [v] = some y) :
    ∃ (a : Option Addr) (n c : Nat) (V : Nat → Int), v = .slice a n c ∧ n ≤ 9223372036854775807 ∧ NumsAt w a n V := by
  rcases open_slice Tryd.underlying30 h with ⟨hcs, -⟩ | ⟨a, len, cap, m, n, D, Pl, hcs, -, hl, hm, hmm, -, hx⟩
  · simp at hcs
    exact ⟨none, 0, 0, fun _ => 0, hcs, by omega, Or.inl rfl⟩
  · simp at hcs
    have hlm : len ≤ m := by rw [hmm]; split <;> omega
    rw [show Tryd.prog.cellsOf 2 = 1 from by kernel_rfl] at hx
    have hq : ∀ i, i < len → ∃ V : Int, w.cells? 0 (a.add (i * 1)) 1 = some (ci V) := fun i hi => by
      obtain ⟨cs', h1, h2⟩ := hx i (by omega)
      obtain ⟨z0, hz, -, -⟩ := DataW.trod_int Tryd.underlying2 h2
      subst hz
      exact ⟨z0, h1⟩
    obtain ⟨V, hV⟩ := choose_lt hq
    unfold maxLen at hm
    exact ⟨some a, len, cap, V, hcs, by omega, OpenC.slice_open (by omega) hV⟩

set_option maxRecDepth 100000 in
/-- An argument that is a state. -/
theorem state {H : Type} {enc : TypeId × Value → H} {w : World} {spare : Nat → Bool} {held : Bool} {r : Reach} {b0 : Nat} {v : Value} {d : DataW H} {p : List MemPlace} (hv : Value.okWide Tryd.prog w r b0 32 v) (h : DataW.Trod enc Tryd.prog w 0 spare held 32 v d p) :
    ∃ (a1 a2 a3 : Option Addr) (c1 c2 c3 : Nat) (S : St), v = stV S a1 a2 a3 c1 c2 c3 ∧ StAt w a1 a2 a3 S ∧ S.n1 ≤ 9223372036854775807 ∧ S.n2 ≤ 9223372036854775807 ∧ S.n3 ≤ 9223372036854775807 := by
  obtain ⟨cs, rfl, hsz⟩ := WideShapes.okWide_struct Tryd.underlying32 hv
  obtain ⟨fuel, hf0⟩ := h
  obtain ⟨xs, m, -, -, hl, hn, hf⟩ := DataW.trod_struct Tryd.underlying32 hf0
  rw [show Tryd.prog.cellsOf 32 = 9 from by kernel_rfl] at hsz
  obtain ⟨v0, v1, v2, v3, v4, v5, v6, v7, v8, hcs⟩ := len9 (cs := cs.toList) (by simpa using hsz)
  obtain rfl : cs = #[v0, v1, v2, v3, v4, v5, v6, v7, v8] := by cases cs; simp_all
  have c1 : Tryd.prog.cellsOf 2 = 1 := by kernel_rfl
  have c2 : Tryd.prog.cellsOf 30 = 1 := by kernel_rfl
  have t0 := (hf 0 _ rfl).trans (List.getElem?_eq_getElem (show 0 < xs.length by rw [hn]; simp))
  have t1 := (hf 1 _ rfl).trans (List.getElem?_eq_getElem (show 1 < xs.length by rw [hn]; simp))
  have t2 := (hf 2 _ rfl).trans (List.getElem?_eq_getElem (show 2 < xs.length by rw [hn]; simp))
  have t3 := (hf 3 _ rfl).trans (List.getElem?_eq_getElem (show 3 < xs.length by rw [hn]; simp))
  have t4 := (hf 4 _ rfl).trans (List.getElem?_eq_getElem (show 4 < xs.length by rw [hn]; simp))
  have t5 := (hf 5 _ rfl).trans (List.getElem?_eq_getElem (show 5 < xs.length by rw [hn]; simp))
  have t6 := (hf 6 _ rfl).trans (List.getElem?_eq_getElem (show 6 < xs.length by rw [hn]; simp))
  have t7 := (hf 7 _ rfl).trans (List.getElem?_eq_getElem (show 7 < xs.length by rw [hn]; simp))
  have t8 := (hf 8 _ rfl).trans (List.getElem?_eq_getElem (show 8 < xs.length by rw [hn]; simp))
  simp [c1, c2, Value.cells] at t0 t1 t2 t3 t4 t5 t6 t7 t8
  obtain ⟨z0, hz0, -, -⟩ := DataW.trod_int Tryd.underlying2 t0
  obtain ⟨z1, hz1, -, -⟩ := DataW.trod_int Tryd.underlying2 t1
  obtain ⟨z2, hz2, -, -⟩ := DataW.trod_int Tryd.underlying2 t2
  obtain ⟨z3, hz3, -, -⟩ := DataW.trod_int Tryd.underlying2 t3
  obtain ⟨z4, hz4, -, -⟩ := DataW.trod_int Tryd.underlying2 t4
  obtain ⟨z5, hz5, -, -⟩ := DataW.trod_int Tryd.underlying2 t5
  simp at hz0 hz1 hz2 hz3 hz4 hz5
  subst hz0
  subst hz1
  subst hz2
  subst hz3
  subst hz4
  subst hz5
  obtain ⟨a1, n1, k1, V1, rfl, b1, s1⟩ := nums t6
  obtain ⟨a2, n2, k2, V2, rfl, b2, s2⟩ := nums t7
  obtain ⟨a3, n3, k3, V3, rfl, b3, s3⟩ := nums t8
  exact ⟨a1, a2, a3, k1, k2, k3, ⟨z0, z1, z2, z3, z4, z5, n1, n2, n3, V1, V2, V3⟩, rfl, ⟨s1, s2, s3⟩, b1, b2, b3⟩
end Go.Proofs.YtgooegcmgejfpaaDoor.OpenS
