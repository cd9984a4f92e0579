import Derived.Test.YtgooegcmgejfpaaGreatDoorRows
import Derived.Test.YtgooegcmgejfpaaGreatDoorGs04
import Derived.Lib.LaidTab
import Derived.LaidLaws
import Derived.ChangeArms
import Derived.Test.YtgooegcmgejfpaaGreatDoorProg
import Derived.Test.YtgooegcmgejfpaaGreatDoorGs03
import Derived.ProofKit
import Derived.OpenShut
import Derived.Deep.Slices
import Derived.Lib.SmallJoins
namespace Go.Proofs.YtgooegcmgejfpaaGreatDoor.ValC
open Go Go.RowKit Go.Proofs.YtgooegcmgejfpaaGreatDoor.Mem
set_option linter.unusedVariables false

/-- An array of records of three numbers, cell for cell. -/
theorem rows3 {H : Type} {enc : TypeId × Value → H} {P : Program} {w : World} {base : Nat} {sp : Nat → Bool} {held : Bool} {fuel : Nat} {t e ti : TypeId} {n : Nat} {f0 f1 f2 : Field} {cs : List Value} {ds : List (DataW H)} {p : List MemPlace}
    (ht : P.underlying t = some (.array n e)) (he : P.underlying e = some (.struct #[f0, f1, f2])) (hi : P.underlying ti = some (.int .i64)) (h0 : f0.type = ti ∧ f0.offset = 0) (h1 : f1.type = ti ∧ f1.offset = 1) (h2 : f2.type = ti ∧ f2.offset = 2) (hci : P.cellsOf ti = 1) (hce : P.cellsOf e = 3) (hct : P.cellsOf t = n * 3)
    (h : DataW.trod enc P w base sp held fuel t cs = some (.agg ds, p)) : ∀ i, i < n → ∃ z0 z1 z2 : Int, cs[i * 3]? = some (.int .i64 z0) ∧ cs[i * 3 + 1]? = some (.int .i64 z1) ∧ cs[i * 3 + 2]? = some (.int .i64 z2) ∧ ds[i]? = some (.agg [.lit (.int .i64 z0), .lit (.int .i64 z1), .lit (.int .i64 z2)]) := by
  cases fuel with
  | zero => simp [DataW.trod] at h
  | succ fuel =>
    simp only [DataW.trod, ht, hce, hct] at h
    split at h
    · obtain ⟨xs, hm, hx⟩ := Option.map_eq_some_iff.1 h
      have hds : ds = xs.map (·.1) := by
        have := congrArg Prod.fst hx
        simp only [DataW.agg.injEq] at this
        exact this.symm
      intro i hin
      obtain ⟨y, hy, hf⟩ := Lib.mapM_at hm i i (by simp [hin])
      obtain ⟨ys, m, -, hyx, -, hyl, hff⟩ := DataW.trod_struct he hf
      have g0 := (hff 0 f0 rfl).trans (List.getElem?_eq_getElem (show 0 < ys.length by rw [hyl]; simp))
      have g1 := (hff 1 f1 rfl).trans (List.getElem?_eq_getElem (show 1 < ys.length by rw [hyl]; simp))
      have g2 := (hff 2 f2 rfl).trans (List.getElem?_eq_getElem (show 2 < ys.length by rw [hyl]; simp))
      rw [h0.1, h0.2, hci] at g0
      rw [h1.1, h1.2, hci] at g1
      rw [h2.1, h2.2, hci] at g2
      obtain ⟨z0, a0, b0, -⟩ := DataW.trod_int hi g0
      obtain ⟨z1, a1, b1, -⟩ := DataW.trod_int hi g1
      obtain ⟨z2, a2, b2, -⟩ := DataW.trod_int hi g2
      have key : ∀ (j : Nat) (z : Int), j < 3 → List.take 1 (List.drop j (List.take 3 (List.drop (i * 3) cs))) = [Value.int .i64 z] → cs[i * 3 + j]? = some (.int .i64 z) := fun j z hj ha => by
        have := congrArg (·[0]?) ha
        simpa [List.getElem?_take, List.getElem?_drop, hj] using this
      refine ⟨z0, z1, z2, key 0 z0 (by omega) a0, key 1 z1 (by omega) a1, key 2 z2 (by omega) a2, ?_⟩
      rw [hds, List.getElem?_map, hy]
      match ys, hyl with
      | [y0, y1, y2], _ =>
        simp only [List.getElem_cons_zero, List.getElem_cons_succ] at b0 b1 b2
        rw [hyx, b0, b1, b2]
        rfl
    · cases h

theorem shData : (Rows.laid_loop_example_s0023_impl_insShapes : DataW Unit) = .agg (shTab.map fun x => .agg [.lit (.int .i64 x.1), .lit (.int .i64 x.2.1), .lit (.int .i64 x.2.2)]) := by kernel_rfl
theorem gSh : Tryz.prog.globalNamed "loop.example/s0023/impl.insShapes" = some 0 := by kernel_rfl
theorem gShType : (Tryz.prog.globals[0]?).map (·.type) = some 189 := by kernel_rfl
theorem cShT : Tryz.prog.cellsOf 189 = 21 * 3 := by kernel_rfl
theorem cSh : Tryz.prog.cellsOf 188 = 3 := by kernel_rfl
theorem cInt : Tryz.prog.cellsOf 3 = 1 := by kernel_rfl

/-- What the row's list gives: the table. -/
theorem tabC {W : World} (h : laidMet Tryz.prog [("loop.example/s0023/impl.insShapes", Rows.laid_loop_example_s0023_impl_insShapes)] W) : TabC W := by
  obtain ⟨ps, ⟨g', t', cs, fuel, p, q, hg', ht', hvar, hd, _, _⟩, _⟩ := h
  obtain rfl := Option.some.inj (gSh.symm.trans hg')
  obtain rfl := Option.some.inj (gShType.symm.trans ht')
  rw [shData] at hd
  intro m hm
  obtain ⟨z0, z1, z2, a0, a1, a2, hz⟩ := rows3 Tryz.underlying189 Tryz.underlying188 Tryz.underlying3 ⟨rfl, rfl⟩ ⟨rfl, rfl⟩ ⟨rfl, rfl⟩ cInt cSh cShT hd m hm
  have hl : m < shTab.length := hm
  have hs : sh m = shTab[m] := by unfold sh; simp [List.getD, hl]
  rw [List.getElem?_map, List.getElem?_eq_getElem hl] at hz
  simp only [Option.map_some, Option.some.injEq, DataW.agg.injEq, List.cons.injEq, DataW.lit.injEq, Lit.int.injEq, true_and, and_true] at hz
  have hv := fun i => World.var?_cell gSh hvar i
  rw [hv, hv, hv, hs, hz.1, hz.2.1, hz.2.2]
  simp only [Array.getElem?_toList] at a0 a1 a2
  exact ⟨a0, a1, a2⟩
end Go.Proofs.YtgooegcmgejfpaaGreatDoor.ValC
namespace Go.Proofs.YtgooegcmgejfpaaGreatDoor.OpenC
open Go Go.RowKit Go.Deep Go.Proofs.YtgooegcmgejfpaaGreatDoor.Mem
set_option linter.unusedVariables false

theorem len4 {α : Type} {cs : List α} (h : cs.length = 4) : ∃ v0 v1 v2 v3, cs = [v0, v1, v2, v3] := by
  match cs, h with
  | [v0, v1, v2, v3], _ => exact ⟨v0, v1, v2, v3, rfl⟩
theorem len5 {α : Type} {cs : List α} (h : cs.length = 5) : ∃ v0 v1 v2 v3 v4, cs = [v0, v1, v2, v3, v4] := by
  match cs, h with
  | [v0, v1, v2, v3, v4], _ => exact ⟨v0, v1, v2, v3, v4, rfl⟩

theorem ins {H : Type} {enc : TypeId × Value → H} {w : World} {base : Nat} {spare : Nat → Bool} {held : Bool} {fuel : Nat} {cs : List Value} {x : DataW H × List MemPlace} (h : DataW.trod enc Tryz.prog w base spare held fuel 136 cs = some x) :
    ∃ z0 z1 z2 z3 : Int, cs = [.int .i64 z0, .int .i64 z1, .int .i64 z2, .int .i64 z3] := by
  obtain ⟨xs, m, -, -, hl, hn, hf⟩ := DataW.trod_struct Tryz.underlying136 h
  rw [show Tryz.prog.cellsOf 136 = 4 from by kernel_rfl] at hl
  obtain ⟨v0, v1, v2, v3, rfl⟩ := len4 hl
  have c1 : Tryz.prog.cellsOf 2 = 1 := by kernel_rfl
  have h0 := hf 0 _ rfl
  have h1 := hf 1 _ rfl
  have h2 := hf 2 _ rfl
  have h3 := hf 3 _ rfl
  obtain ⟨z0, hz0, -, -⟩ := DataW.trod_int Tryz.underlying2 (h0.trans (List.getElem?_eq_getElem (show 0 < xs.length by rw [hn]; simp)))
  obtain ⟨z1, hz1, -, -⟩ := DataW.trod_int Tryz.underlying2 (h1.trans (List.getElem?_eq_getElem (show 1 < xs.length by rw [hn]; simp)))
  obtain ⟨z2, hz2, -, -⟩ := DataW.trod_int Tryz.underlying2 (h2.trans (List.getElem?_eq_getElem (show 2 < xs.length by rw [hn]; simp)))
  obtain ⟨z3, hz3, -, -⟩ := DataW.trod_int Tryz.underlying2 (h3.trans (List.getElem?_eq_getElem (show 3 < xs.length by rw [hn]; simp)))
  simp [c1] at hz0
  subst hz0
  simp [c1] at hz1
  subst hz1
  simp [c1] at hz2
  subst hz2
  simp [c1] at hz3
  subst hz3
  exact ⟨z0, z1, z2, z3, rfl⟩
theorem slice_open {w : World} {a : Addr} {len k : Nat} {C : Nat → List Value} (hk : 0 < k) (h : ∀ i, i < len → w.cells? 0 (a.add (i * k)) k = some (C i)) : SliceAt w (some a) len k C := by
  by_cases h0 : len = 0
  · exact Or.inl h0
  right
  obtain ⟨b, off, spot⟩ := a
  obtain ⟨-, hl, hc⟩ := World.cells?_some (h 0 (by omega))
  have e0 := hc 0 hk
  rw [List.getElem?_eq_getElem (by omega)] at e0
  have hs : spot = none := by simpa [Addr.add] using World.cell?_spot e0
  subst hs
  refine ⟨b, off, rfl, fun i hi j v hv => ?_⟩
  obtain ⟨-, hl, hc⟩ := World.cells?_some (h i hi)
  have hj : j < k := by rw [← hl]; exact (List.getElem?_eq_some_iff.1 hv).1
  have := hc j hj
  rw [Deep.add_add, Addr.add_mid, ← Nat.add_assoc] at this
  rw [this]; exact hv


theorem inss {H : Type} {enc : TypeId × Value → H} {w : World} {spare : Nat → Bool} {held : Bool} {fuel : Nat} {v : Value} {y : DataW H × List MemPlace} (h : DataW.trod enc Tryz.prog w 0 spare held fuel 22 [v] = some y) :
    ∃ (a : Option Addr) (n c : Nat) (V : Nat → Is), v = .slice a n c ∧ n ≤ 9223372036854775807 ∧ SliceAt w a n 4 (fun i => (V i).cells) := by
  rcases open_slice Tryz.underlying22 h with ⟨hcs, -⟩ | ⟨a, len, cap, m, n, D, Pl, hcs, -, hl, hm, hmm, -, hx⟩
  · simp at hcs
    exact ⟨none, 0, 0, fun _ => ⟨0, 0, 0, 0⟩, hcs, by omega, Or.inl rfl⟩
  · simp at hcs
    have hlm : len ≤ m := by rw [hmm]; split <;> omega
    rw [show Tryz.prog.cellsOf 136 = 4 from by kernel_rfl] at hx
    have hq : ∀ i, i < len → ∃ V : Is, w.cells? 0 (a.add (i * 4)) 4 = some V.cells := fun i hi => by
      obtain ⟨cs', h1, h2⟩ := hx i (by omega)
      obtain ⟨z0, z1, z2, z3, rfl⟩ := ins h2
      exact ⟨⟨z0, z1, z2, z3⟩, h1⟩
    have : Inhabited Is := ⟨⟨0, 0, 0, 0⟩⟩
    obtain ⟨V, hV⟩ := choose_lt hq
    unfold maxLen at hm
    exact ⟨some a, len, cap, V, hcs, by omega, slice_open (by omega) hV⟩

set_option maxRecDepth 100000 in
/-- An argument that is a code. -/
theorem code {H : Type} {enc : TypeId × Value → H} {w : World} {spare : Nat → Bool} {held : Bool} {r : Reach} {b0 : Nat} {v : Value} {d : DataW H} {p : List MemPlace} (hv : Value.okWide Tryz.prog w r b0 24 v) (h : DataW.Trod enc Tryz.prog w 0 spare held 24 v d p) :
    ∃ (a1 a2 a3 : Option Addr) (c1 c2 c3 : Nat) (C : Co), v = coV C a1 a2 a3 c1 c2 c3 ∧ CoAt w a1 a2 a3 C ∧ C.n1 ≤ 9223372036854775807 ∧ C.n2 ≤ 9223372036854775807 ∧ C.n3 ≤ 9223372036854775807 := by
  obtain ⟨cs, rfl, hsz⟩ := WideShapes.okWide_struct Tryz.underlying24 hv
  obtain ⟨fuel, hf0⟩ := h
  obtain ⟨xs, m, -, -, hl, hn, hf⟩ := DataW.trod_struct Tryz.underlying24 hf0
  rw [show Tryz.prog.cellsOf 24 = 5 from by kernel_rfl] at hsz
  obtain ⟨v0, v1, v2, v3, v4, hcs⟩ := len5 (cs := cs.toList) (by simpa using hsz)
  obtain rfl : cs = #[v0, v1, v2, v3, v4] := by cases cs; simp_all
  have c1 : Tryz.prog.cellsOf 2 = 1 := by kernel_rfl
  have c2 : Tryz.prog.cellsOf 22 = 1 := by kernel_rfl
  have t0 := (hf 0 _ rfl).trans (List.getElem?_eq_getElem (show 0 < xs.length by rw [hn]; simp))
  have t1 := (hf 1 _ rfl).trans (List.getElem?_eq_getElem (show 1 < xs.length by rw [hn]; simp))
  have t2 := (hf 2 _ rfl).trans (List.getElem?_eq_getElem (show 2 < xs.length by rw [hn]; simp))
  have t3 := (hf 3 _ rfl).trans (List.getElem?_eq_getElem (show 3 < xs.length by rw [hn]; simp))
  have t4 := (hf 4 _ rfl).trans (List.getElem?_eq_getElem (show 4 < xs.length by rw [hn]; simp))
  simp [c1, c2, Value.cells] at t0 t1 t2 t3 t4
  obtain ⟨z0, hz0, -, -⟩ := DataW.trod_int Tryz.underlying2 t0
  obtain ⟨z1, hz1, -, -⟩ := DataW.trod_int Tryz.underlying2 t1
  simp at hz0 hz1
  subst hz0
  subst hz1
  obtain ⟨a1, n1, k1, V1, rfl, b1, s1⟩ := inss t2
  obtain ⟨a2, n2, k2, V2, rfl, b2, s2⟩ := inss t3
  obtain ⟨a3, n3, k3, V3, rfl, b3, s3⟩ := inss t4
  exact ⟨a1, a2, a3, k1, k2, k3, ⟨z0, z1, n1, n2, n3, V1, V2, V3⟩, rfl, ⟨s1, s2, s3⟩, b1, b2, b3⟩
end Go.Proofs.YtgooegcmgejfpaaGreatDoor.OpenC
namespace Go.Proofs.YtgooegcmgejfpaaGreatDoor.OpenS
open Go Go.RowKit Go.Deep Go.Proofs.YtgooegcmgejfpaaGreatDoor.Mem
set_option linter.unusedVariables false

theorem len9 {α : Type} {cs : List α} (h : cs.length = 9) : ∃ v0 v1 v2 v3 v4 v5 v6 v7 v8, cs = [v0, v1, v2, v3, v4, v5, v6, v7, v8] := by
  match cs, h with
  | [v0, v1, v2, v3, v4, v5, v6, v7, v8], _ => exact ⟨v0, v1, v2, v3, v4, v5, v6, v7, v8, rfl⟩
theorem nums {H : Type} {enc : TypeId × Value → H} {w : World} {spare : Nat → Bool} {held : Bool} {fuel : Nat} {v : Value} {y : DataW H × List MemPlace} (h : DataW.trod enc Tryz.prog w 0 spare held fuel 32 [v] = some y) :
    ∃ (a : Option Addr) (n c : Nat) (V : Nat → Int), v = .slice a n c ∧ n ≤ 9223372036854775807 ∧ NumsAt w a n V := by
  rcases open_slice Tryz.underlying32 h with ⟨hcs, -⟩ | ⟨a, len, cap, m, n, D, Pl, hcs, -, hl, hm, hmm, -, hx⟩
  · simp at hcs
    exact ⟨none, 0, 0, fun _ => 0, hcs, by omega, Or.inl rfl⟩
  · simp at hcs
    have hlm : len ≤ m := by rw [hmm]; split <;> omega
    rw [show Tryz.prog.cellsOf 2 = 1 from by kernel_rfl] at hx
    have hq : ∀ i, i < len → ∃ V : Int, w.cells? 0 (a.add (i * 1)) 1 = some (ci V) := fun i hi => by
      obtain ⟨cs', h1, h2⟩ := hx i (by omega)
      obtain ⟨z0, hz, -, -⟩ := DataW.trod_int Tryz.underlying2 h2
      subst hz
      exact ⟨z0, h1⟩
    obtain ⟨V, hV⟩ := choose_lt hq
    unfold maxLen at hm
    exact ⟨some a, len, cap, V, hcs, by omega, OpenC.slice_open (by omega) hV⟩

set_option maxRecDepth 100000 in
/-- An argument that is a state. -/
theorem state {H : Type} {enc : TypeId × Value → H} {w : World} {spare : Nat → Bool} {held : Bool} {r : Reach} {b0 : Nat} {v : Value} {d : DataW H} {p : List MemPlace} (hv : Value.okWide Tryz.prog w r b0 53 v) (h : DataW.Trod enc Tryz.prog w 0 spare held 53 v d p) :
    ∃ (a1 a2 a3 : Option Addr) (c1 c2 c3 : Nat) (S : St), v = stV S a1 a2 a3 c1 c2 c3 ∧ StAt w a1 a2 a3 S ∧ S.n1 ≤ 9223372036854775807 ∧ S.n2 ≤ 9223372036854775807 ∧ S.n3 ≤ 9223372036854775807 := by
  obtain ⟨cs, rfl, hsz⟩ := WideShapes.okWide_struct Tryz.underlying53 hv
  obtain ⟨fuel, hf0⟩ := h
  obtain ⟨xs, m, -, -, hl, hn, hf⟩ := DataW.trod_struct Tryz.underlying53 hf0
  rw [show Tryz.prog.cellsOf 53 = 9 from by kernel_rfl] at hsz
  obtain ⟨v0, v1, v2, v3, v4, v5, v6, v7, v8, hcs⟩ := len9 (cs := cs.toList) (by simpa using hsz)
  obtain rfl : cs = #[v0, v1, v2, v3, v4, v5, v6, v7, v8] := by cases cs; simp_all
  have c1 : Tryz.prog.cellsOf 2 = 1 := by kernel_rfl
  have c2 : Tryz.prog.cellsOf 32 = 1 := by kernel_rfl
  have t0 := (hf 0 _ rfl).trans (List.getElem?_eq_getElem (show 0 < xs.length by rw [hn]; simp))
  have t1 := (hf 1 _ rfl).trans (List.getElem?_eq_getElem (show 1 < xs.length by rw [hn]; simp))
  have t2 := (hf 2 _ rfl).trans (List.getElem?_eq_getElem (show 2 < xs.length by rw [hn]; simp))
  have t3 := (hf 3 _ rfl).trans (List.getElem?_eq_getElem (show 3 < xs.length by rw [hn]; simp))
  have t4 := (hf 4 _ rfl).trans (List.getElem?_eq_getElem (show 4 < xs.length by rw [hn]; simp))
  have t5 := (hf 5 _ rfl).trans (List.getElem?_eq_getElem (show 5 < xs.length by rw [hn]; simp))
  have t6 := (hf 6 _ rfl).trans (List.getElem?_eq_getElem (show 6 < xs.length by rw [hn]; simp))
  have t7 := (hf 7 _ rfl).trans (List.getElem?_eq_getElem (show 7 < xs.length by rw [hn]; simp))
  have t8 := (hf 8 _ rfl).trans (List.getElem?_eq_getElem (show 8 < xs.length by rw [hn]; simp))
  simp [c1, c2, Value.cells] at t0 t1 t2 t3 t4 t5 t6 t7 t8
  obtain ⟨z0, hz0, -, -⟩ := DataW.trod_int Tryz.underlying2 t0
  obtain ⟨z1, hz1, -, -⟩ := DataW.trod_int Tryz.underlying2 t1
  obtain ⟨z2, hz2, -, -⟩ := DataW.trod_int Tryz.underlying2 t2
  obtain ⟨z3, hz3, -, -⟩ := DataW.trod_int Tryz.underlying2 t3
  obtain ⟨z4, hz4, -, -⟩ := DataW.trod_int Tryz.underlying2 t4
  obtain ⟨z5, hz5, -, -⟩ := DataW.trod_int Tryz.underlying2 t5
  simp at hz0 hz1 hz2 hz3 hz4 hz5
  subst hz0
  subst hz1
  subst hz2
  subst hz3
  subst hz4
  subst hz5
  obtain ⟨a1, n1, k1, V1, rfl, b1, s1⟩ := nums t6
  obtain ⟨a2, n2, k2, V2, rfl, b2, s2⟩ := nums t7
  obtain ⟨a3, n3, k3, V3, rfl, b3, s3⟩ := nums t8
  exact ⟨a1, a2, a3, k1, k2, k3, ⟨z0, z1, z2, z3, z4, z5, n1, n2, n3, V1, V2, V3⟩, rfl, ⟨s1, s2, s3⟩, b1, b2, b3⟩
end Go.Proofs.YtgooegcmgejfpaaGreatDoor.OpenS
