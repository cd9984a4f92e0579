import Derived.Test.YtdhnjkcebaahcaaDoorProg
import Derived.Test.YtdhnjkcebaahcaaDoorMem
import Derived.ProofKit
import Derived.OpenShut
import Derived.Deep.Slices
import Derived.Lib.SmallJoins
namespace Go.Proofs.YtdhnjkcebaahcaaDoor.Open
open Go Go.RowKit Go.Deep Go.Proofs.YtdhnjkcebaahcaaDoor.Mem
set_option linter.unusedVariables false

theorem len3 {α : Type} {cs : List α} (h : cs.length = 3) : ∃ v0 v1 v2, cs = [v0, v1, v2] := by
  match cs, h with
  | [v0, v1, v2], _ => exact ⟨v0, v1, v2, rfl⟩
theorem len5 {α : Type} {cs : List α} (h : cs.length = 5) : ∃ v0 v1 v2 v3 v4, cs = [v0, v1, v2, v3, v4] := by
  match cs, h with
  | [v0, v1, v2, v3, v4], _ => exact ⟨v0, v1, v2, v3, v4, rfl⟩
theorem len7 {α : Type} {cs : List α} (h : cs.length = 7) : ∃ v0 v1 v2 v3 v4 v5 v6, cs = [v0, v1, v2, v3, v4, v5, v6] := by
  match cs, h with
  | [v0, v1, v2, v3, v4, v5, v6], _ => exact ⟨v0, v1, v2, v3, v4, v5, v6, rfl⟩
theorem len12 {α : Type} {cs : List α} (h : cs.length = 12) : ∃ v0 v1 v2 v3 v4 v5 v6 v7 v8 v9 v10 v11, cs = [v0, v1, v2, v3, v4, v5, v6, v7, v8, v9, v10, v11] := by
  match cs, h with
  | [v0, v1, v2, v3, v4, v5, v6, v7, v8, v9, v10, v11], _ => exact ⟨v0, v1, v2, v3, v4, v5, v6, v7, v8, v9, v10, v11, rfl⟩

theorem place {H : Type} {enc : TypeId × Value → H} {w : World} {base : Nat} {spare : Nat → Bool} {held : Bool} {fuel : Nat} {cs : List Value} {x : DataW H × List MemPlace} (h : DataW.trod enc Tryd.prog w base spare held fuel 109 cs = some x) :
    ∃ z0 z1 z2 z3 z4 : Int, cs = [.int .i64 z0, .int .i64 z1, .int .i64 z2, .int .i64 z3, .int .i64 z4] := by
  obtain ⟨xs, m, -, -, hl, hn, hf⟩ := DataW.trod_struct Tryd.underlying109 h
  rw [show Tryd.prog.cellsOf 109 = 5 from by kernel_rfl] at hl
  obtain ⟨v0, v1, v2, v3, v4, rfl⟩ := len5 hl
  have c1 : Tryd.prog.cellsOf 2 = 1 := by kernel_rfl
  have h0 := hf 0 _ rfl
  have h1 := hf 1 _ rfl
  have h2 := hf 2 _ rfl
  have h3 := hf 3 _ rfl
  have h4 := hf 4 _ rfl
  obtain ⟨z0, hz0, -, -⟩ := DataW.trod_int Tryd.underlying2 (h0.trans (List.getElem?_eq_getElem (show 0 < xs.length by rw [hn]; simp)))
  obtain ⟨z1, hz1, -, -⟩ := DataW.trod_int Tryd.underlying2 (h1.trans (List.getElem?_eq_getElem (show 1 < xs.length by rw [hn]; simp)))
  obtain ⟨z2, hz2, -, -⟩ := DataW.trod_int Tryd.underlying2 (h2.trans (List.getElem?_eq_getElem (show 2 < xs.length by rw [hn]; simp)))
  obtain ⟨z3, hz3, -, -⟩ := DataW.trod_int Tryd.underlying2 (h3.trans (List.getElem?_eq_getElem (show 3 < xs.length by rw [hn]; simp)))
  obtain ⟨z4, hz4, -, -⟩ := DataW.trod_int Tryd.underlying2 (h4.trans (List.getElem?_eq_getElem (show 4 < xs.length by rw [hn]; simp)))
  simp [c1] at hz0
  subst hz0
  simp [c1] at hz1
  subst hz1
  simp [c1] at hz2
  subst hz2
  simp [c1] at hz3
  subst hz3
  simp [c1] at hz4
  subst hz4
  exact ⟨z0, z1, z2, z3, z4, rfl⟩

theorem road {H : Type} {enc : TypeId × Value → H} {w : World} {base : Nat} {spare : Nat → Bool} {held : Bool} {fuel : Nat} {cs : List Value} {x : DataW H × List MemPlace} (h : DataW.trod enc Tryd.prog w base spare held fuel 116 cs = some x) :
    ∃ z0 z1 z2 : Int, cs = [.int .i64 z0, .int .i64 z1, .int .i64 z2] := by
  obtain ⟨xs, m, -, -, hl, hn, hf⟩ := DataW.trod_struct Tryd.underlying116 h
  rw [show Tryd.prog.cellsOf 116 = 3 from by kernel_rfl] at hl
  obtain ⟨v0, v1, v2, rfl⟩ := len3 hl
  have c1 : Tryd.prog.cellsOf 2 = 1 := by kernel_rfl
  have h0 := hf 0 _ rfl
  have h1 := hf 1 _ rfl
  have h2 := hf 2 _ rfl
  obtain ⟨z0, hz0, -, -⟩ := DataW.trod_int Tryd.underlying2 (h0.trans (List.getElem?_eq_getElem (show 0 < xs.length by rw [hn]; simp)))
  obtain ⟨z1, hz1, -, -⟩ := DataW.trod_int Tryd.underlying2 (h1.trans (List.getElem?_eq_getElem (show 1 < xs.length by rw [hn]; simp)))
  obtain ⟨z2, hz2, -, -⟩ := DataW.trod_int Tryd.underlying2 (h2.trans (List.getElem?_eq_getElem (show 2 < xs.length by rw [hn]; simp)))
  simp [c1] at hz0
  subst hz0
  simp [c1] at hz1
  subst hz1
  simp [c1] at hz2
  subst hz2
  exact ⟨z0, z1, z2, rfl⟩

theorem vehicle {H : Type} {enc : TypeId × Value → H} {w : World} {base : Nat} {spare : Nat → Bool} {held : Bool} {fuel : Nat} {cs : List Value} {x : DataW H × List MemPlace} (h : DataW.trod enc Tryd.prog w base spare held fuel 111 cs = some x) :
    ∃ z0 z1 z2 z3 z4 z5 z6 : Int, cs = [.int .i64 z0, .int .i64 z1, .int .i64 z2, .int .i64 z3, .int .i64 z4, .int .i64 z5, .int .i64 z6] := by
  obtain ⟨xs, m, -, -, hl, hn, hf⟩ := DataW.trod_struct Tryd.underlying111 h
  rw [show Tryd.prog.cellsOf 111 = 7 from by kernel_rfl] at hl
  obtain ⟨v0, v1, v2, v3, v4, v5, v6, rfl⟩ := len7 hl
  have c1 : Tryd.prog.cellsOf 2 = 1 := by kernel_rfl
  have c5 : Tryd.prog.cellsOf 109 = 5 := by kernel_rfl
  obtain ⟨z0, hz0, -, -⟩ := DataW.trod_int Tryd.underlying2 ((hf 0 _ rfl).trans (List.getElem?_eq_getElem (show 0 < xs.length by rw [hn]; simp)))
  simp [c1] at hz0
  subst hz0
  obtain ⟨z1, hz1, -, -⟩ := DataW.trod_int Tryd.underlying2 ((hf 1 _ rfl).trans (List.getElem?_eq_getElem (show 1 < xs.length by rw [hn]; simp)))
  simp [c1] at hz1
  subst hz1
  obtain ⟨y00, y01, y02, y03, y04, hp0⟩ := place ((hf 2 _ rfl).trans (List.getElem?_eq_getElem (show 2 < xs.length by rw [hn]; simp)))
  simp [c5] at hp0
  obtain ⟨rfl, rfl, rfl, rfl, rfl⟩ := hp0
  exact ⟨z0, z1, y00, y01, y02, y03, y04, rfl⟩

theorem request {H : Type} {enc : TypeId × Value → H} {w : World} {base : Nat} {spare : Nat → Bool} {held : Bool} {fuel : Nat} {cs : List Value} {x : DataW H × List MemPlace} (h : DataW.trod enc Tryd.prog w base spare held fuel 114 cs = some x) :
    ∃ z0 z1 z2 z3 z4 z5 z6 z7 z8 z9 z10 z11 : Int, cs = [.int .i64 z0, .int .i64 z1, .int .i64 z2, .int .i64 z3, .int .i64 z4, .int .i64 z5, .int .i64 z6, .int .i64 z7, .int .i64 z8, .int .i64 z9, .int .i64 z10, .int .i64 z11] := by
  obtain ⟨xs, m, -, -, hl, hn, hf⟩ := DataW.trod_struct Tryd.underlying114 h
  rw [show Tryd.prog.cellsOf 114 = 12 from by kernel_rfl] at hl
  obtain ⟨v0, v1, v2, v3, v4, v5, v6, v7, v8, v9, v10, v11, rfl⟩ := len12 hl
  have c1 : Tryd.prog.cellsOf 2 = 1 := by kernel_rfl
  have c5 : Tryd.prog.cellsOf 109 = 5 := by kernel_rfl
  obtain ⟨z0, hz0, -, -⟩ := DataW.trod_int Tryd.underlying2 ((hf 0 _ rfl).trans (List.getElem?_eq_getElem (show 0 < xs.length by rw [hn]; simp)))
  simp [c1] at hz0
  subst hz0
  obtain ⟨z1, hz1, -, -⟩ := DataW.trod_int Tryd.underlying2 ((hf 1 _ rfl).trans (List.getElem?_eq_getElem (show 1 < xs.length by rw [hn]; simp)))
  simp [c1] at hz1
  subst hz1
  obtain ⟨y00, y01, y02, y03, y04, hp0⟩ := place ((hf 2 _ rfl).trans (List.getElem?_eq_getElem (show 2 < xs.length by rw [hn]; simp)))
  simp [c5] at hp0
  obtain ⟨rfl, rfl, rfl, rfl, rfl⟩ := hp0
  obtain ⟨y10, y11, y12, y13, y14, hp1⟩ := place ((hf 3 _ rfl).trans (List.getElem?_eq_getElem (show 3 < xs.length by rw [hn]; simp)))
  simp [c5] at hp1
  obtain ⟨rfl, rfl, rfl, rfl, rfl⟩ := hp1
  exact ⟨z0, z1, y00, y01, y02, y03, y04, y10, y11, y12, y13, y14, rfl⟩

theorem slice_open {w : World} {a : Addr} {len k : Nat} {C : Nat → List Value} (hk : 0 < k) (h : ∀ i, i < len → w.cells? 0 (a.add (i * k)) k = some (C i)) : SliceAt w (some a) len k C := by
  by_cases h0 : len = 0
  · exact Or.inl h0
  right
  obtain ⟨b, off, spot⟩ := a
  obtain ⟨-, hl, hc⟩ := World.cells?_some (h 0 (by omega))
  have e0 := hc 0 hk
  rw [List.getElem?_eq_getElem (by omega)] at e0
  have hs : spot = none := by simpa [Addr.add] using World.cell?_spot e0
  subst hs
  refine ⟨b, off, rfl, fun i hi j v hv => ?_⟩
  obtain ⟨-, hl, hc⟩ := World.cells?_some (h i hi)
  have hj : j < k := by rw [← hl]; exact (List.getElem?_eq_some_iff.1 hv).1
  have := hc j hj
  rw [Deep.add_add, Addr.add_mid, ← Nat.add_assoc] at this
  rw [this]; exact hv


theorem vehicles {H : Type} {enc : TypeId × Value → H} {w : World} {spare : Nat → Bool} {held : Bool} {fuel : Nat} {v : Value} {y : DataW H × List MemPlace} (h : DataW.trod enc Tryd.prog w 0 spare held fuel 22 [v] = some y) :
    ∃ (a : Option Addr) (n c : Nat) (V : Nat → Veh), v = .slice a n c ∧ n ≤ 9223372036854775807 ∧ SliceAt w a n 7 (fun i => (V i).cells) := by
  rcases open_slice Tryd.underlying22 h with ⟨hcs, -⟩ | ⟨a, len, cap, m, n, D, Pl, hcs, -, hl, hm, hmm, -, hx⟩
  · simp at hcs
    exact ⟨none, 0, 0, fun _ => ⟨0, 0, 0, 0, 0, 0, 0⟩, hcs, by omega, Or.inl rfl⟩
  · simp at hcs
    have hlm : len ≤ m := by rw [hmm]; split <;> omega
    rw [show Tryd.prog.cellsOf 111 = 7 from by kernel_rfl] at hx
    have hq : ∀ i, i < len → ∃ V : Veh, w.cells? 0 (a.add (i * 7)) 7 = some V.cells := fun i hi => by
      obtain ⟨cs', h1, h2⟩ := hx i (by omega)
      obtain ⟨z0, z1, z2, z3, z4, z5, z6, rfl⟩ := vehicle h2
      exact ⟨⟨z0, z1, z2, z3, z4, z5, z6⟩, h1⟩
    have : Inhabited Veh := ⟨⟨0, 0, 0, 0, 0, 0, 0⟩⟩
    obtain ⟨V, hV⟩ := choose_lt hq
    unfold maxLen at hm
    exact ⟨some a, len, cap, V, hcs, by omega, slice_open (by omega) hV⟩

theorem requests {H : Type} {enc : TypeId × Value → H} {w : World} {spare : Nat → Bool} {held : Bool} {fuel : Nat} {v : Value} {y : DataW H × List MemPlace} (h : DataW.trod enc Tryd.prog w 0 spare held fuel 23 [v] = some y) :
    ∃ (a : Option Addr) (n c : Nat) (V : Nat → Req), v = .slice a n c ∧ n ≤ 9223372036854775807 ∧ SliceAt w a n 12 (fun i => (V i).cells) := by
  rcases open_slice Tryd.underlying23 h with ⟨hcs, -⟩ | ⟨a, len, cap, m, n, D, Pl, hcs, -, hl, hm, hmm, -, hx⟩
  · simp at hcs
    exact ⟨none, 0, 0, fun _ => ⟨0, 0, 0, 0, 0, 0, 0, 0, 0, 0, 0, 0⟩, hcs, by omega, Or.inl rfl⟩
  · simp at hcs
    have hlm : len ≤ m := by rw [hmm]; split <;> omega
    rw [show Tryd.prog.cellsOf 114 = 12 from by kernel_rfl] at hx
    have hq : ∀ i, i < len → ∃ V : Req, w.cells? 0 (a.add (i * 12)) 12 = some V.cells := fun i hi => by
      obtain ⟨cs', h1, h2⟩ := hx i (by omega)
      obtain ⟨z0, z1, z2, z3, z4, z5, z6, z7, z8, z9, z10, z11, rfl⟩ := request h2
      exact ⟨⟨z0, z1, z2, z3, z4, z5, z6, z7, z8, z9, z10, z11⟩, h1⟩
    have : Inhabited Req := ⟨⟨0, 0, 0, 0, 0, 0, 0, 0, 0, 0, 0, 0⟩⟩
    obtain ⟨V, hV⟩ := choose_lt hq
    unfold maxLen at hm
    exact ⟨some a, len, cap, V, hcs, by omega, slice_open (by omega) hV⟩

theorem roads {H : Type} {enc : TypeId × Value → H} {w : World} {spare : Nat → Bool} {held : Bool} {fuel : Nat} {v : Value} {y : DataW H × List MemPlace} (h : DataW.trod enc Tryd.prog w 0 spare held fuel 24 [v] = some y) :
    ∃ (a : Option Addr) (n c : Nat) (V : Nat → Rd), v = .slice a n c ∧ n ≤ 9223372036854775807 ∧ SliceAt w a n 3 (fun i => (V i).cells) := by
  rcases open_slice Tryd.underlying24 h with ⟨hcs, -⟩ | ⟨a, len, cap, m, n, D, Pl, hcs, -, hl, hm, hmm, -, hx⟩
  · simp at hcs
    exact ⟨none, 0, 0, fun _ => ⟨0, 0, 0⟩, hcs, by omega, Or.inl rfl⟩
  · simp at hcs
    have hlm : len ≤ m := by rw [hmm]; split <;> omega
    rw [show Tryd.prog.cellsOf 116 = 3 from by kernel_rfl] at hx
    have hq : ∀ i, i < len → ∃ V : Rd, w.cells? 0 (a.add (i * 3)) 3 = some V.cells := fun i hi => by
      obtain ⟨cs', h1, h2⟩ := hx i (by omega)
      obtain ⟨z0, z1, z2, rfl⟩ := road h2
      exact ⟨⟨z0, z1, z2⟩, h1⟩
    have : Inhabited Rd := ⟨⟨0, 0, 0⟩⟩
    obtain ⟨V, hV⟩ := choose_lt hq
    unfold maxLen at hm
    exact ⟨some a, len, cap, V, hcs, by omega, slice_open (by omega) hV⟩

set_option maxRecDepth 100000 in
/-- An argument that is an instance. -/
theorem inst {H : Type} {enc : TypeId × Value → H} {w : World} {spare : Nat → Bool} {held : Bool} {r : Reach} {b0 : Nat} {v : Value} {d : DataW H} {p : List MemPlace} (hv : Value.okWide Tryd.prog w r b0 26 v) (h : DataW.Trod enc Tryd.prog w 0 spare held 26 v d p) :
    ∃ (a1 a2 a3 : Option Addr) (c1 c2 c3 : Nat) (I : In), v = .agg #[.slice a1 I.nV c1, .slice a2 I.nQ c2, .slice a3 I.nR c3] ∧ InAt w a1 a2 a3 I ∧ I.nV ≤ 9223372036854775807 ∧ I.nQ ≤ 9223372036854775807 ∧ I.nR ≤ 9223372036854775807 := by
  obtain ⟨u0, u1, u2, y0, y1, y2, n, rfl, -, -, t0, t1, t2⟩ := Joins.open_agg3 Tryd.underlying26 (by kernel_rfl) (show Tryd.prog.cellsOf 26 = 3 from by kernel_rfl) hv h
  obtain ⟨a1, n1, c1, V, rfl, b1, s1⟩ := vehicles t0
  obtain ⟨a2, n2, c2, Q, rfl, b2, s2⟩ := requests t1
  obtain ⟨a3, n3, c3, R, rfl, b3, s3⟩ := roads t2
  exact ⟨a1, a2, a3, c1, c2, c3, ⟨n1, n2, n3, V, Q, R⟩, rfl, ⟨s1, s2, s3⟩, b1, b2, b3⟩
end Go.Proofs.YtdhnjkcebaahcaaDoor.Open
