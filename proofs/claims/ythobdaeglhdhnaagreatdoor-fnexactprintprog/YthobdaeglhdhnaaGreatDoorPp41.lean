import Derived.Test.YthobdaeglhdhnaaGreatDoorProg
import Derived.Test.YthobdaeglhdhnaaGreatDoorPp15
import Derived.ProofKit
import Derived.OpenShut
import Derived.Deep.Slices
import Derived.Lib.SmallJoins
import Derived.ChangeArms
namespace Go.Proofs.YthobdaeglhdhnaaGreatDoor.OpenP
open Go Go.RowKit Go.Deep Go.Proofs.YthobdaeglhdhnaaGreatDoor.Mem Go.Proofs.YthobdaeglhdhnaaGreatDoor.Syn
set_option linter.unusedVariables false

theorem len3 {α : Type} {cs : List α} (h : cs.length = 3) : ∃ v0 v1 v2, cs = [v0, v1, v2] := by
  match cs, h with
  | [v0, v1, v2], _ => exact ⟨v0, v1, v2, rfl⟩
theorem len7 {α : Type} {cs : List α} (h : cs.length = 7) : ∃ v0 v1 v2 v3 v4 v5 v6, cs = [v0, v1, v2, v3, v4, v5, v6] := by
  match cs, h with
  | [v0, v1, v2, v3, v4, v5, v6], _ => exact ⟨v0, v1, v2, v3, v4, v5, v6, rfl⟩
theorem str_eq (s : ByteArray) : (⟨s.data.toList.toArray⟩ : ByteArray) = s := by cases s; simp
theorem str_len (s : ByteArray) (h : s.size ≤ maxLen) : s.data.toList.length ≤ 9223372036854775807 := by
  have : s.data.toList.length = s.size := by rw [Array.length_toList]; rfl
  unfold maxLen at h
  omega
theorem op {H : Type} {enc : TypeId × Value → H} {w : World} {base : Nat} {spare : Nat → Bool} {held : Bool} {fuel : Nat} {cs : List Value} {x : DataW H × List MemPlace} (h : DataW.trod enc Tryz.prog w base spare held fuel 93 cs = some x) :
    ∃ o : Po, cs = o.cells ∧ o.n.length ≤ 9223372036854775807 := by
  obtain ⟨xs, m, -, -, hl, hn, hf⟩ := DataW.trod_struct Tryz.underlying93 h
  rw [show Tryz.prog.cellsOf 93 = 3 from by kernel_rfl] at hl
  obtain ⟨v0, v1, v2, rfl⟩ := len3 hl
  have c1 : Tryz.prog.cellsOf 2 = 1 := by kernel_rfl
  have c2 : Tryz.prog.cellsOf 9 = 1 := by kernel_rfl
  have h0 := hf 0 _ rfl
  have h1 := hf 1 _ rfl
  have h2 := hf 2 _ rfl
  obtain ⟨z0, hz0, -, -⟩ := DataW.trod_int Tryz.underlying2 (h0.trans (List.getElem?_eq_getElem (show 0 < xs.length by rw [hn]; simp)))
  obtain ⟨z1, hz1, -, -⟩ := DataW.trod_int Tryz.underlying2 (h1.trans (List.getElem?_eq_getElem (show 1 < xs.length by rw [hn]; simp)))
  obtain ⟨s2, hz2, -, hs2⟩ := DataW.trod_string Tryz.underlying9 (h2.trans (List.getElem?_eq_getElem (show 2 < xs.length by rw [hn]; simp)))
  simp [c1] at hz0
  subst hz0
  simp [c1] at hz1
  subst hz1
  simp [c2] at hz2
  subst hz2
  exact ⟨⟨z0, z1, s2.data.toList⟩, by simp only [Po.cells, str_eq], str_len s2 hs2⟩
theorem slice_open {w : World} {a : Addr} {len k : Nat} {C : Nat → List Value} (hk : 0 < k) (h : ∀ i, i < len → w.cells? 0 (a.add (i * k)) k = some (C i)) : SliceAt w (some a) len k C := by
  by_cases h0 : len = 0
  · exact Or.inl h0
  right
  obtain ⟨b, off, spot⟩ := a
  obtain ⟨-, hl, hc⟩ := World.cells?_some (h 0 (by omega))
  have e0 := hc 0 hk
  rw [List.getElem?_eq_getElem (by omega)] at e0
  have hs : spot = none := by simpa [Addr.add] using World.cell?_spot e0
  subst hs
  refine ⟨b, off, rfl, fun i hi j v hv => ?_⟩
  obtain ⟨-, hl, hc⟩ := World.cells?_some (h i hi)
  have hj : j < k := by rw [← hl]; exact (List.getElem?_eq_some_iff.1 hv).1
  have := hc j hj
  rw [Deep.add_add, Addr.add_mid, ← Nat.add_assoc] at this
  rw [this]; exact hv



theorem ops {H : Type} {enc : TypeId × Value → H} {w : World} {spare : Nat → Bool} {held : Bool} {fuel : Nat} {v : Value} {y : DataW H × List MemPlace} (h : DataW.trod enc Tryz.prog w 0 spare held fuel 48 [v] = some y) :
    ∃ (a : Option Addr) (n c : Nat) (E : Nat → Po), v = .slice a n c ∧ n ≤ 9223372036854775807 ∧ SliceAt w a n 3 (fun i => (E i).cells) ∧ ∀ i, i < n → (E i).n.length ≤ 9223372036854775807 := by
  rcases open_slice Tryz.underlying48 h with ⟨hcs, -⟩ | ⟨a, len, cap, m, n, D, Pl, hcs, -, hl, hm, hmm, -, hx⟩
  · simp at hcs
    exact ⟨none, 0, 0, fun _ => default, hcs, by omega, Or.inl rfl, fun i hi => by omega⟩
  · simp at hcs
    have hlm : len ≤ m := by rw [hmm]; split <;> omega
    rw [show Tryz.prog.cellsOf 93 = 3 from by kernel_rfl] at hx
    have hq : ∀ i, i < len → ∃ V : Po, w.cells? 0 (a.add (i * 3)) 3 = some V.cells ∧ V.n.length ≤ 9223372036854775807 := fun i hi => by
      obtain ⟨cs', h1, h2⟩ := hx i (by omega)
      obtain ⟨o, rfl, ho⟩ := op h2
      exact ⟨o, h1, ho⟩
    obtain ⟨V, hV⟩ := choose_lt hq
    unfold maxLen at hm
    exact ⟨some a, len, cap, V, hcs, by omega, slice_open (by omega) (fun i hi => (hV i hi).1), fun i hi => (hV i hi).2⟩

/-- An item in memory, its lists of no more than the greatest length. -/
structure ItOk (w : World) (i : It) (l : Lo) : Prop where
  e : SliceAt w l.aE i.nE 3 (fun j => (i.E j).cells)
  f : SliceAt w l.aF i.nF 3 (fun j => (i.F j).cells)
  n : i.n.length ≤ 9223372036854775807
  ne : i.nE ≤ 9223372036854775807
  nf : i.nF ≤ 9223372036854775807
  se : ∀ j, j < i.nE → (i.E j).n.length ≤ 9223372036854775807
  sf : ∀ j, j < i.nF → (i.F j).n.length ≤ 9223372036854775807
theorem item {H : Type} {enc : TypeId × Value → H} {w : World} {spare : Nat → Bool} {held : Bool} {fuel : Nat} {cs : List Value} {x : DataW H × List MemPlace} (h : DataW.trod enc Tryz.prog w 0 spare held fuel 50 cs = some x) :
    ∃ (i : It) (l : Lo), cs = i.cells l ∧ ItOk w i l := by
  obtain ⟨xs, m, -, -, hl, hn, hf⟩ := DataW.trod_struct Tryz.underlying50 h
  rw [show Tryz.prog.cellsOf 50 = 7 from by kernel_rfl] at hl
  obtain ⟨v0, v1, v2, v3, v4, v5, v6, rfl⟩ := len7 hl
  have c1 : Tryz.prog.cellsOf 2 = 1 := by kernel_rfl
  have c2 : Tryz.prog.cellsOf 9 = 1 := by kernel_rfl
  have c3 : Tryz.prog.cellsOf 48 = 1 := by kernel_rfl
  have t0 := (hf 0 _ rfl).trans (List.getElem?_eq_getElem (show 0 < xs.length by rw [hn]; simp))
  have t1 := (hf 1 _ rfl).trans (List.getElem?_eq_getElem (show 1 < xs.length by rw [hn]; simp))
  have t2 := (hf 2 _ rfl).trans (List.getElem?_eq_getElem (show 2 < xs.length by rw [hn]; simp))
  have t3 := (hf 3 _ rfl).trans (List.getElem?_eq_getElem (show 3 < xs.length by rw [hn]; simp))
  have t4 := (hf 4 _ rfl).trans (List.getElem?_eq_getElem (show 4 < xs.length by rw [hn]; simp))
  have t5 := (hf 5 _ rfl).trans (List.getElem?_eq_getElem (show 5 < xs.length by rw [hn]; simp))
  have t6 := (hf 6 _ rfl).trans (List.getElem?_eq_getElem (show 6 < xs.length by rw [hn]; simp))
  simp [c1, c2, c3] at t0 t1 t2 t3 t4 t5 t6
  obtain ⟨z0, hz0, -, -⟩ := DataW.trod_int Tryz.underlying2 t0
  obtain ⟨s1, hz1, -, hs1⟩ := DataW.trod_string Tryz.underlying9 t1
  obtain ⟨z4, hz4, -, -⟩ := DataW.trod_int Tryz.underlying2 t4
  obtain ⟨z5, hz5, -, -⟩ := DataW.trod_int Tryz.underlying2 t5
  obtain ⟨z6, hz6, -, -⟩ := DataW.trod_int Tryz.underlying2 t6
  simp at hz0 hz1 hz4 hz5 hz6
  subst hz0 hz1 hz4 hz5 hz6
  obtain ⟨a2, n2, k2, E, rfl, b2, q2, r2⟩ := ops t2
  obtain ⟨a3, n3, k3, F, rfl, b3, q3, r3⟩ := ops t3
  exact ⟨⟨z0, s1.data.toList, n2, n3, E, F, z4, z5, z6⟩, ⟨a2, a3, k2, k3⟩, by simp only [It.cells, str_eq], ⟨q2, q3, str_len s1 hs1, b2, b3, r2, r3⟩⟩
theorem items {H : Type} {enc : TypeId × Value → H} {w : World} {spare : Nat → Bool} {held : Bool} {fuel : Nat} {v : Value} {y : DataW H × List MemPlace} (h : DataW.trod enc Tryz.prog w 0 spare held fuel 22 [v] = some y) :
    ∃ (a : Option Addr) (n c : Nat) (I : Nat → It) (L : Nat → Lo), v = .slice a n c ∧ n ≤ 9223372036854775807 ∧ SliceAt w a n 7 (fun i => (I i).cells (L i)) ∧ ∀ i, i < n → ItOk w (I i) (L i) := by
  rcases open_slice Tryz.underlying22 h with ⟨hcs, -⟩ | ⟨a, len, cap, m, n, D, Pl, hcs, -, hl, hm, hmm, -, hx⟩
  · simp at hcs
    exact ⟨none, 0, 0, fun _ => ⟨0, [], 0, 0, fun _ => default, fun _ => default, 0, 0, 0⟩, fun _ => ⟨none, none, 0, 0⟩, hcs, by omega, Or.inl rfl, fun i hi => by omega⟩
  · simp at hcs
    have hlm : len ≤ m := by rw [hmm]; split <;> omega
    rw [show Tryz.prog.cellsOf 50 = 7 from by kernel_rfl] at hx
    have hq : ∀ i, i < len → ∃ V : It × Lo, w.cells? 0 (a.add (i * 7)) 7 = some (V.1.cells V.2) ∧ ItOk w V.1 V.2 := fun i hi => by
      obtain ⟨cs', h1, h2⟩ := hx i (by omega)
      obtain ⟨o, l, rfl, ho⟩ := item h2
      exact ⟨(o, l), h1, ho⟩
    have : Inhabited (It × Lo) := ⟨(⟨0, [], 0, 0, fun _ => default, fun _ => default, 0, 0, 0⟩, ⟨none, none, 0, 0⟩)⟩
    obtain ⟨V, hV⟩ := choose_lt hq
    unfold maxLen at hm
    exact ⟨some a, len, cap, fun i => (V i).1, fun i => (V i).2, hcs, by omega, slice_open (by omega) (fun i hi => (hV i hi).1), fun i hi => (hV i hi).2⟩
/-- A program's sizes. -/
structure PrBd (w : World) (P : Pr) (L : Nat → Lo) : Prop where
  n : P.n ≤ 9223372036854775807
  i : ∀ k, k < P.n → ItOk w (P.I k) (L k)
set_option maxRecDepth 100000 in
/-- An argument that is a program. -/
theorem prog {H : Type} {enc : TypeId × Value → H} {w : World} {spare : Nat → Bool} {held : Bool} {r : Reach} {b0 : Nat} {v : Value} {d : DataW H} {p : List MemPlace} (hv : Value.okWide Tryz.prog w r b0 24 v) (h : DataW.Trod enc Tryz.prog w 0 spare held 24 v d p) :
    ∃ (a : Option Addr) (c : Nat) (P : Pr) (L : Nat → Lo), v = .agg #[.slice a P.n c] ∧ PrAt w a P L ∧ PrBd w P L := by
  obtain ⟨cs, rfl, hsz⟩ := WideShapes.okWide_struct Tryz.underlying24 hv
  obtain ⟨fuel, hf0⟩ := h
  obtain ⟨xs, m, -, -, hl, hn, hf⟩ := DataW.trod_struct Tryz.underlying24 hf0
  rw [show Tryz.prog.cellsOf 24 = 1 from by kernel_rfl] at hsz
  obtain ⟨v0, hcs⟩ : ∃ v0, cs = #[v0] := by
    obtain ⟨l⟩ := cs
    match l, hsz with
    | [v0], _ => exact ⟨v0, rfl⟩
  subst hcs
  have c1 : Tryz.prog.cellsOf 22 = 1 := by kernel_rfl
  have t0 := (hf 0 _ rfl).trans (List.getElem?_eq_getElem (show 0 < xs.length by rw [hn]; simp))
  simp [c1, Value.cells] at t0
  obtain ⟨a, n, c, I, L, rfl, hb, hs, hi⟩ := items t0
  exact ⟨a, c, ⟨n, I⟩, L, rfl, ⟨hs, fun i h => (hi i h).e, fun i h => (hi i h).f⟩, hb, hi⟩
end Go.Proofs.YthobdaeglhdhnaaGreatDoor.OpenP
