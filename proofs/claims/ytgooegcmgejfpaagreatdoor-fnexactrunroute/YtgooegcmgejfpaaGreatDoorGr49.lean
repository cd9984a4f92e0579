import Derived.Test.YtgooegcmgejfpaaGreatDoorRows
import Derived.Test.YtgooegcmgejfpaaGreatDoorGr15
import Derived.Lib.LaidTab
import Derived.LaidLaws
import Derived.ChangeArms
import Derived.Test.YtgooegcmgejfpaaGreatDoorProg
import Derived.Test.YtgooegcmgejfpaaGreatDoorGr02
import Derived.ProofKit
import Derived.OpenShut
import Derived.Deep.Slices
import Derived.Lib.SmallJoins
import Derived.Test.YtgooegcmgejfpaaGreatDoorGr01
import Derived.Test.YtgooegcmgejfpaaGreatDoorGr05
import Derived.WideShapes
import Derived.WalkKit
import Derived.ChangeOld
import Derived.ChangeVars
import Derived.WalkSmall
import Derived.WideKeyArgs
import Derived.Below
import Derived.Carry
namespace Go.Proofs.YtgooegcmgejfpaaGreatDoor.ValC
open Go Go.RowKit Go.Proofs.YtgooegcmgejfpaaGreatDoor.Mem
set_option linter.unusedVariables false

/-- An array of records of three numbers, cell for cell. -/
theorem rows3 {H : Type} {enc : TypeId × Value → H} {P : Program} {w : World} {base : Nat} {sp : Nat → Bool} {held : Bool} {fuel : Nat} {t e ti : TypeId} {n : Nat} {f0 f1 f2 : Field} {cs : List Value} {ds : List (DataW H)} {p : List MemPlace}
    (ht : P.underlying t = some (.array n e)) (he : P.underlying e = some (.struct #[f0, f1, f2])) (hi : P.underlying ti = some (.int .i64)) (h0 : f0.type = ti ∧ f0.offset = 0) (h1 : f1.type = ti ∧ f1.offset = 1) (h2 : f2.type = ti ∧ f2.offset = 2) (hci : P.cellsOf ti = 1) (hce : P.cellsOf e = 3) (hct : P.cellsOf t = n * 3)
    (h : DataW.trod enc P w base sp held fuel t cs = some (.agg ds, p)) : ∀ i, i < n → ∃ z0 z1 z2 : Int, cs[i * 3]? = some (.int .i64 z0) ∧ cs[i * 3 + 1]? = some (.int .i64 z1) ∧ cs[i * 3 + 2]? = some (.int .i64 z2) ∧ ds[i]? = some (.agg [.lit (.int .i64 z0), .lit (.int .i64 z1), .lit (.int .i64 z2)]) := by
  cases fuel with
  | zero => simp [DataW.trod] at h
  | succ fuel =>
    simp only [DataW.trod, ht, hce, hct] at h
    split at h
    · obtain ⟨xs, hm, hx⟩ := Option.map_eq_some_iff.1 h
      have hds : ds = xs.map (·.1) := by
        have := congrArg Prod.fst hx
        simp only [DataW.agg.injEq] at this
        exact this.symm
      intro i hin
      obtain ⟨y, hy, hf⟩ := Lib.mapM_at hm i i (by simp [hin])
      obtain ⟨ys, m, -, hyx, -, hyl, hff⟩ := DataW.trod_struct he hf
      have g0 := (hff 0 f0 rfl).trans (List.getElem?_eq_getElem (show 0 < ys.length by rw [hyl]; simp))
      have g1 := (hff 1 f1 rfl).trans (List.getElem?_eq_getElem (show 1 < ys.length by rw [hyl]; simp))
      have g2 := (hff 2 f2 rfl).trans (List.getElem?_eq_getElem (show 2 < ys.length by rw [hyl]; simp))
      rw [h0.1, h0.2, hci] at g0
      rw [h1.1, h1.2, hci] at g1
      rw [h2.1, h2.2, hci] at g2
      obtain ⟨z0, a0, b0, -⟩ := DataW.trod_int hi g0
      obtain ⟨z1, a1, b1, -⟩ := DataW.trod_int hi g1
      obtain ⟨z2, a2, b2, -⟩ := DataW.trod_int hi g2
      have key : ∀ (j : Nat) (z : Int), j < 3 → List.take 1 (List.drop j (List.take 3 (List.drop (i * 3) cs))) = [Value.int .i64 z] → cs[i * 3 + j]? = some (.int .i64 z) := fun j z hj ha => by
        have := congrArg (·[0]?) ha
        simpa [List.getElem?_take, List.getElem?_drop, hj] using this
      refine ⟨z0, z1, z2, key 0 z0 (by omega) a0, key 1 z1 (by omega) a1, key 2 z2 (by omega) a2, ?_⟩
      rw [hds, List.getElem?_map, hy]
      match ys, hyl with
      | [y0, y1, y2], _ =>
        simp only [List.getElem_cons_zero, List.getElem_cons_succ] at b0 b1 b2
        rw [hyx, b0, b1, b2]
        rfl
    · cases h

theorem shData : (Rows.laid_loop_example_s0023_impl_insShapes : DataW Unit) = .agg (shTab.map fun x => .agg [.lit (.int .i64 x.1), .lit (.int .i64 x.2.1), .lit (.int .i64 x.2.2)]) := by kernel_rfl
theorem gSh : Tryz.prog.globalNamed "loop.example/s0023/impl.insShapes" = some 0 := by kernel_rfl
theorem gShType : (Tryz.prog.globals[0]?).map (·.type) = some 189 := by kernel_rfl
theorem cShT : Tryz.prog.cellsOf 189 = 21 * 3 := by kernel_rfl
theorem cSh : Tryz.prog.cellsOf 188 = 3 := by kernel_rfl
theorem cInt : Tryz.prog.cellsOf 3 = 1 := by kernel_rfl

/-- What the row's list gives: the table. -/
theorem tabC {W : World} (h : laidMet Tryz.prog [("loop.example/s0023/impl.insShapes", Rows.laid_loop_example_s0023_impl_insShapes)] W) : TabC W := by
  obtain ⟨ps, ⟨g', t', cs, fuel, p, q, hg', ht', hvar, hd, _, _⟩, _⟩ := h
  obtain rfl := Option.some.inj (gSh.symm.trans hg')
  obtain rfl := Option.some.inj (gShType.symm.trans ht')
  rw [shData] at hd
  intro m hm
  obtain ⟨z0, z1, z2, a0, a1, a2, hz⟩ := rows3 Tryz.underlying189 Tryz.underlying188 Tryz.underlying3 ⟨rfl, rfl⟩ ⟨rfl, rfl⟩ ⟨rfl, rfl⟩ cInt cSh cShT hd m hm
  have hl : m < shTab.length := hm
  have hs : sh m = shTab[m] := by unfold sh; simp [List.getD, hl]
  rw [List.getElem?_map, List.getElem?_eq_getElem hl] at hz
  simp only [Option.map_some, Option.some.injEq, DataW.agg.injEq, List.cons.injEq, DataW.lit.injEq, Lit.int.injEq, true_and, and_true] at hz
  have hv := fun i => World.var?_cell gSh hvar i
  rw [hv, hv, hv, hs, hz.1, hz.2.1, hz.2.2]
  simp only [Array.getElem?_toList] at a0 a1 a2
  exact ⟨a0, a1, a2⟩
end Go.Proofs.YtgooegcmgejfpaaGreatDoor.ValC
namespace Go.Proofs.YtgooegcmgejfpaaGreatDoor.OpenC
open Go Go.RowKit Go.Deep Go.Proofs.YtgooegcmgejfpaaGreatDoor.Mem
set_option linter.unusedVariables false

theorem len4 {α : Type} {cs : List α} (h : cs.length = 4) : ∃ v0 v1 v2 v3, cs = [v0, v1, v2, v3] := by
  match cs, h with
  | [v0, v1, v2, v3], _ => exact ⟨v0, v1, v2, v3, rfl⟩
theorem len5 {α : Type} {cs : List α} (h : cs.length = 5) : ∃ v0 v1 v2 v3 v4, cs = [v0, v1, v2, v3, v4] := by
  match cs, h with
  | [v0, v1, v2, v3, v4], _ => exact ⟨v0, v1, v2, v3, v4, rfl⟩

theorem ins {H : Type} {enc : TypeId × Value → H} {w : World} {base : Nat} {spare : Nat → Bool} {held : Bool} {fuel : Nat} {cs : List Value} {x : DataW H × List MemPlace} (h : DataW.trod enc Tryz.prog w base spare held fuel 136 cs = some x) :
    ∃ z0 z1 z2 z3 : Int, cs = [.int .i64 z0, .int .i64 z1, .int .i64 z2, .int .i64 z3] := by
  obtain ⟨xs, m, -, -, hl, hn, hf⟩ := DataW.trod_struct Tryz.underlying136 h
  rw [show Tryz.prog.cellsOf 136 = 4 from by kernel_rfl] at hl
  obtain ⟨v0, v1, v2, v3, rfl⟩ := len4 hl
  have c1 : Tryz.prog.cellsOf 2 = 1 := by kernel_rfl
  have h0 := hf 0 _ rfl
  have h1 := hf 1 _ rfl
  have h2 := hf 2 _ rfl
  have h3 := hf 3 _ rfl
  obtain ⟨z0, hz0, -, -⟩ := DataW.trod_int Tryz.underlying2 (h0.trans (List.getElem?_eq_getElem (show 0 < xs.length by rw [hn]; simp)))
  obtain ⟨z1, hz1, -, -⟩ := DataW.trod_int Tryz.underlying2 (h1.trans (List.getElem?_eq_getElem (show 1 < xs.length by rw [hn]; simp)))
  obtain ⟨z2, hz2, -, -⟩ := DataW.trod_int Tryz.underlying2 (h2.trans (List.getElem?_eq_getElem (show 2 < xs.length by rw [hn]; simp)))
  obtain ⟨z3, hz3, -, -⟩ := DataW.trod_int Tryz.underlying2 (h3.trans (List.getElem?_eq_getElem (show 3 < xs.length by rw [hn]; simp)))
  simp [c1] at hz0
  subst hz0
  simp [c1] at hz1
  subst hz1
  simp [c1] at hz2
  subst hz2
  simp [c1] at hz3
  subst hz3
  exact ⟨z0, z1, z2, z3, rfl⟩
theorem slice_open {w : World} {a : Addr} {len k : Nat} {C : Nat → List Value} (hk : 0 < k) (h : ∀ i, i < len → w.cells? 0 (a.add (i * k)) k = some (C i)) : SliceAt w (some a) len k C := by
  by_cases h0 : len = 0
  · exact Or.inl h0
  right
  obtain ⟨b, off, spot⟩ := a
  obtain ⟨-, hl, hc⟩ := World.cells?_some (h 0 (by omega))
  have e0 := hc 0 hk
  rw [List.getElem?_eq_getElem (by omega)] at e0
  have hs : spot = none := by simpa [Addr.add] using World.cell?_spot e0
  subst hs
  refine ⟨b, off, rfl, fun i hi j v hv => ?_⟩
  obtain ⟨-, hl, hc⟩ := World.cells?_some (h i hi)
  have hj : j < k := by rw [← hl]; exact (List.getElem?_eq_some_iff.1 hv).1
  have := hc j hj
  rw [Deep.add_add, Addr.add_mid, ← Nat.add_assoc] at this
  rw [this]; exact hv


theorem inss {H : Type} {enc : TypeId × Value → H} {w : World} {spare : Nat → Bool} {held : Bool} {fuel : Nat} {v : Value} {y : DataW H × List MemPlace} (h : DataW.trod enc Tryz.prog w 0 spare held fuel 22 [v] = some y) :
    ∃ (a : Option Addr) (n c : Nat) (V : Nat → Is), v = .slice a n c ∧ n ≤ 9223372036854775807 ∧ SliceAt w a n 4 (fun i => (V i).cells) := by
  rcases open_slice Tryz.underlying22 h with ⟨hcs, -⟩ | ⟨a, len, cap, m, n, D, Pl, hcs, -, hl, hm, hmm, -, hx⟩
  · simp at hcs
    exact ⟨none, 0, 0, fun _ => ⟨0, 0, 0, 0⟩, hcs, by omega, Or.inl rfl⟩
  · simp at hcs
    have hlm : len ≤ m := by rw [hmm]; split <;> omega
    rw [show Tryz.prog.cellsOf 136 = 4 from by kernel_rfl] at hx
    have hq : ∀ i, i < len → ∃ V : Is, w.cells? 0 (a.add (i * 4)) 4 = some V.cells := fun i hi => by
      obtain ⟨cs', h1, h2⟩ := hx i (by omega)
      obtain ⟨z0, z1, z2, z3, rfl⟩ := ins h2
      exact ⟨⟨z0, z1, z2, z3⟩, h1⟩
    have : Inhabited Is := ⟨⟨0, 0, 0, 0⟩⟩
    obtain ⟨V, hV⟩ := choose_lt hq
    unfold maxLen at hm
    exact ⟨some a, len, cap, V, hcs, by omega, slice_open (by omega) hV⟩

set_option maxRecDepth 100000 in
/-- An argument that is a code. -/
theorem code {H : Type} {enc : TypeId × Value → H} {w : World} {spare : Nat → Bool} {held : Bool} {r : Reach} {b0 : Nat} {v : Value} {d : DataW H} {p : List MemPlace} (hv : Value.okWide Tryz.prog w r b0 24 v) (h : DataW.Trod enc Tryz.prog w 0 spare held 24 v d p) :
    ∃ (a1 a2 a3 : Option Addr) (c1 c2 c3 : Nat) (C : Co), v = coV C a1 a2 a3 c1 c2 c3 ∧ CoAt w a1 a2 a3 C ∧ C.n1 ≤ 9223372036854775807 ∧ C.n2 ≤ 9223372036854775807 ∧ C.n3 ≤ 9223372036854775807 := by
  obtain ⟨cs, rfl, hsz⟩ := WideShapes.okWide_struct Tryz.underlying24 hv
  obtain ⟨fuel, hf0⟩ := h
  obtain ⟨xs, m, -, -, hl, hn, hf⟩ := DataW.trod_struct Tryz.underlying24 hf0
  rw [show Tryz.prog.cellsOf 24 = 5 from by kernel_rfl] at hsz
  obtain ⟨v0, v1, v2, v3, v4, hcs⟩ := len5 (cs := cs.toList) (by simpa using hsz)
  obtain rfl : cs = #[v0, v1, v2, v3, v4] := by cases cs; simp_all
  have c1 : Tryz.prog.cellsOf 2 = 1 := by kernel_rfl
  have c2 : Tryz.prog.cellsOf 22 = 1 := by kernel_rfl
  have t0 := (hf 0 _ rfl).trans (List.getElem?_eq_getElem (show 0 < xs.length by rw [hn]; simp))
  have t1 := (hf 1 _ rfl).trans (List.getElem?_eq_getElem (show 1 < xs.length by rw [hn]; simp))
  have t2 := (hf 2 _ rfl).trans (List.getElem?_eq_getElem (show 2 < xs.length by rw [hn]; simp))
  have t3 := (hf 3 _ rfl).trans (List.getElem?_eq_getElem (show 3 < xs.length by rw [hn]; simp))
  have t4 := (hf 4 _ rfl).trans (List.getElem?_eq_getElem (show 4 < xs.length by rw [hn]; simp))
  simp [c1, c2, Value.cells] at t0 t1 t2 t3 t4
  obtain ⟨z0, hz0, -, -⟩ := DataW.trod_int Tryz.underlying2 t0
  obtain ⟨z1, hz1, -, -⟩ := DataW.trod_int Tryz.underlying2 t1
  simp at hz0 hz1
  subst hz0
  subst hz1
  obtain ⟨a1, n1, k1, V1, rfl, b1, s1⟩ := inss t2
  obtain ⟨a2, n2, k2, V2, rfl, b2, s2⟩ := inss t3
  obtain ⟨a3, n3, k3, V3, rfl, b3, s3⟩ := inss t4
  exact ⟨a1, a2, a3, k1, k2, k3, ⟨z0, z1, n1, n2, n3, V1, V2, V3⟩, rfl, ⟨s1, s2, s3⟩, b1, b2, b3⟩
end Go.Proofs.YtgooegcmgejfpaaGreatDoor.OpenC
namespace Go.Proofs.YtgooegcmgejfpaaGreatDoor.Open
open Go Go.RowKit Go.Deep Go.Proofs.YtgooegcmgejfpaaGreatDoor.Mem
set_option linter.unusedVariables false

theorem len3 {α : Type} {cs : List α} (h : cs.length = 3) : ∃ v0 v1 v2, cs = [v0, v1, v2] := by
  match cs, h with
  | [v0, v1, v2], _ => exact ⟨v0, v1, v2, rfl⟩
theorem len5 {α : Type} {cs : List α} (h : cs.length = 5) : ∃ v0 v1 v2 v3 v4, cs = [v0, v1, v2, v3, v4] := by
  match cs, h with
  | [v0, v1, v2, v3, v4], _ => exact ⟨v0, v1, v2, v3, v4, rfl⟩
theorem len7 {α : Type} {cs : List α} (h : cs.length = 7) : ∃ v0 v1 v2 v3 v4 v5 v6, cs = [v0, v1, v2, v3, v4, v5, v6] := by
  match cs, h with
  | [v0, v1, v2, v3, v4, v5, v6], _ => exact ⟨v0, v1, v2, v3, v4, v5, v6, rfl⟩
theorem len12 {α : Type} {cs : List α} (h : cs.length = 12) : ∃ v0 v1 v2 v3 v4 v5 v6 v7 v8 v9 v10 v11, cs = [v0, v1, v2, v3, v4, v5, v6, v7, v8, v9, v10, v11] := by
  match cs, h with
  | [v0, v1, v2, v3, v4, v5, v6, v7, v8, v9, v10, v11], _ => exact ⟨v0, v1, v2, v3, v4, v5, v6, v7, v8, v9, v10, v11, rfl⟩

theorem place {H : Type} {enc : TypeId × Value → H} {w : World} {base : Nat} {spare : Nat → Bool} {held : Bool} {fuel : Nat} {cs : List Value} {x : DataW H × List MemPlace} (h : DataW.trod enc Tryz.prog w base spare held fuel 138 cs = some x) :
    ∃ z0 z1 z2 z3 z4 : Int, cs = [.int .i64 z0, .int .i64 z1, .int .i64 z2, .int .i64 z3, .int .i64 z4] := by
  obtain ⟨xs, m, -, -, hl, hn, hf⟩ := DataW.trod_struct Tryz.underlying138 h
  rw [show Tryz.prog.cellsOf 138 = 5 from by kernel_rfl] at hl
  obtain ⟨v0, v1, v2, v3, v4, rfl⟩ := len5 hl
  have c1 : Tryz.prog.cellsOf 2 = 1 := by kernel_rfl
  have h0 := hf 0 _ rfl
  have h1 := hf 1 _ rfl
  have h2 := hf 2 _ rfl
  have h3 := hf 3 _ rfl
  have h4 := hf 4 _ rfl
  obtain ⟨z0, hz0, -, -⟩ := DataW.trod_int Tryz.underlying2 (h0.trans (List.getElem?_eq_getElem (show 0 < xs.length by rw [hn]; simp)))
  obtain ⟨z1, hz1, -, -⟩ := DataW.trod_int Tryz.underlying2 (h1.trans (List.getElem?_eq_getElem (show 1 < xs.length by rw [hn]; simp)))
  obtain ⟨z2, hz2, -, -⟩ := DataW.trod_int Tryz.underlying2 (h2.trans (List.getElem?_eq_getElem (show 2 < xs.length by rw [hn]; simp)))
  obtain ⟨z3, hz3, -, -⟩ := DataW.trod_int Tryz.underlying2 (h3.trans (List.getElem?_eq_getElem (show 3 < xs.length by rw [hn]; simp)))
  obtain ⟨z4, hz4, -, -⟩ := DataW.trod_int Tryz.underlying2 (h4.trans (List.getElem?_eq_getElem (show 4 < xs.length by rw [hn]; simp)))
  simp [c1] at hz0
  subst hz0
  simp [c1] at hz1
  subst hz1
  simp [c1] at hz2
  subst hz2
  simp [c1] at hz3
  subst hz3
  simp [c1] at hz4
  subst hz4
  exact ⟨z0, z1, z2, z3, z4, rfl⟩

theorem road {H : Type} {enc : TypeId × Value → H} {w : World} {base : Nat} {spare : Nat → Bool} {held : Bool} {fuel : Nat} {cs : List Value} {x : DataW H × List MemPlace} (h : DataW.trod enc Tryz.prog w base spare held fuel 145 cs = some x) :
    ∃ z0 z1 z2 : Int, cs = [.int .i64 z0, .int .i64 z1, .int .i64 z2] := by
  obtain ⟨xs, m, -, -, hl, hn, hf⟩ := DataW.trod_struct Tryz.underlying145 h
  rw [show Tryz.prog.cellsOf 145 = 3 from by kernel_rfl] at hl
  obtain ⟨v0, v1, v2, rfl⟩ := len3 hl
  have c1 : Tryz.prog.cellsOf 2 = 1 := by kernel_rfl
  have h0 := hf 0 _ rfl
  have h1 := hf 1 _ rfl
  have h2 := hf 2 _ rfl
  obtain ⟨z0, hz0, -, -⟩ := DataW.trod_int Tryz.underlying2 (h0.trans (List.getElem?_eq_getElem (show 0 < xs.length by rw [hn]; simp)))
  obtain ⟨z1, hz1, -, -⟩ := DataW.trod_int Tryz.underlying2 (h1.trans (List.getElem?_eq_getElem (show 1 < xs.length by rw [hn]; simp)))
  obtain ⟨z2, hz2, -, -⟩ := DataW.trod_int Tryz.underlying2 (h2.trans (List.getElem?_eq_getElem (show 2 < xs.length by rw [hn]; simp)))
  simp [c1] at hz0
  subst hz0
  simp [c1] at hz1
  subst hz1
  simp [c1] at hz2
  subst hz2
  exact ⟨z0, z1, z2, rfl⟩

theorem vehicle {H : Type} {enc : TypeId × Value → H} {w : World} {base : Nat} {spare : Nat → Bool} {held : Bool} {fuel : Nat} {cs : List Value} {x : DataW H × List MemPlace} (h : DataW.trod enc Tryz.prog w base spare held fuel 140 cs = some x) :
    ∃ z0 z1 z2 z3 z4 z5 z6 : Int, cs = [.int .i64 z0, .int .i64 z1, .int .i64 z2, .int .i64 z3, .int .i64 z4, .int .i64 z5, .int .i64 z6] := by
  obtain ⟨xs, m, -, -, hl, hn, hf⟩ := DataW.trod_struct Tryz.underlying140 h
  rw [show Tryz.prog.cellsOf 140 = 7 from by kernel_rfl] at hl
  obtain ⟨v0, v1, v2, v3, v4, v5, v6, rfl⟩ := len7 hl
  have c1 : Tryz.prog.cellsOf 2 = 1 := by kernel_rfl
  have c5 : Tryz.prog.cellsOf 138 = 5 := by kernel_rfl
  obtain ⟨z0, hz0, -, -⟩ := DataW.trod_int Tryz.underlying2 ((hf 0 _ rfl).trans (List.getElem?_eq_getElem (show 0 < xs.length by rw [hn]; simp)))
  simp [c1] at hz0
  subst hz0
  obtain ⟨z1, hz1, -, -⟩ := DataW.trod_int Tryz.underlying2 ((hf 1 _ rfl).trans (List.getElem?_eq_getElem (show 1 < xs.length by rw [hn]; simp)))
  simp [c1] at hz1
  subst hz1
  obtain ⟨y00, y01, y02, y03, y04, hp0⟩ := place ((hf 2 _ rfl).trans (List.getElem?_eq_getElem (show 2 < xs.length by rw [hn]; simp)))
  simp [c5] at hp0
  obtain ⟨rfl, rfl, rfl, rfl, rfl⟩ := hp0
  exact ⟨z0, z1, y00, y01, y02, y03, y04, rfl⟩

theorem request {H : Type} {enc : TypeId × Value → H} {w : World} {base : Nat} {spare : Nat → Bool} {held : Bool} {fuel : Nat} {cs : List Value} {x : DataW H × List MemPlace} (h : DataW.trod enc Tryz.prog w base spare held fuel 143 cs = some x) :
    ∃ z0 z1 z2 z3 z4 z5 z6 z7 z8 z9 z10 z11 : Int, cs = [.int .i64 z0, .int .i64 z1, .int .i64 z2, .int .i64 z3, .int .i64 z4, .int .i64 z5, .int .i64 z6, .int .i64 z7, .int .i64 z8, .int .i64 z9, .int .i64 z10, .int .i64 z11] := by
  obtain ⟨xs, m, -, -, hl, hn, hf⟩ := DataW.trod_struct Tryz.underlying143 h
  rw [show Tryz.prog.cellsOf 143 = 12 from by kernel_rfl] at hl
  obtain ⟨v0, v1, v2, v3, v4, v5, v6, v7, v8, v9, v10, v11, rfl⟩ := len12 hl
  have c1 : Tryz.prog.cellsOf 2 = 1 := by kernel_rfl
  have c5 : Tryz.prog.cellsOf 138 = 5 := by kernel_rfl
  obtain ⟨z0, hz0, -, -⟩ := DataW.trod_int Tryz.underlying2 ((hf 0 _ rfl).trans (List.getElem?_eq_getElem (show 0 < xs.length by rw [hn]; simp)))
  simp [c1] at hz0
  subst hz0
  obtain ⟨z1, hz1, -, -⟩ := DataW.trod_int Tryz.underlying2 ((hf 1 _ rfl).trans (List.getElem?_eq_getElem (show 1 < xs.length by rw [hn]; simp)))
  simp [c1] at hz1
  subst hz1
  obtain ⟨y00, y01, y02, y03, y04, hp0⟩ := place ((hf 2 _ rfl).trans (List.getElem?_eq_getElem (show 2 < xs.length by rw [hn]; simp)))
  simp [c5] at hp0
  obtain ⟨rfl, rfl, rfl, rfl, rfl⟩ := hp0
  obtain ⟨y10, y11, y12, y13, y14, hp1⟩ := place ((hf 3 _ rfl).trans (List.getElem?_eq_getElem (show 3 < xs.length by rw [hn]; simp)))
  simp [c5] at hp1
  obtain ⟨rfl, rfl, rfl, rfl, rfl⟩ := hp1
  exact ⟨z0, z1, y00, y01, y02, y03, y04, y10, y11, y12, y13, y14, rfl⟩

theorem slice_open {w : World} {a : Addr} {len k : Nat} {C : Nat → List Value} (hk : 0 < k) (h : ∀ i, i < len → w.cells? 0 (a.add (i * k)) k = some (C i)) : SliceAt w (some a) len k C := by
  by_cases h0 : len = 0
  · exact Or.inl h0
  right
  obtain ⟨b, off, spot⟩ := a
  obtain ⟨-, hl, hc⟩ := World.cells?_some (h 0 (by omega))
  have e0 := hc 0 hk
  rw [List.getElem?_eq_getElem (by omega)] at e0
  have hs : spot = none := by simpa [Addr.add] using World.cell?_spot e0
  subst hs
  refine ⟨b, off, rfl, fun i hi j v hv => ?_⟩
  obtain ⟨-, hl, hc⟩ := World.cells?_some (h i hi)
  have hj : j < k := by rw [← hl]; exact (List.getElem?_eq_some_iff.1 hv).1
  have := hc j hj
  rw [Deep.add_add, Addr.add_mid, ← Nat.add_assoc] at this
  rw [this]; exact hv


theorem vehicles {H : Type} {enc : TypeId × Value → H} {w : World} {spare : Nat → Bool} {held : Bool} {fuel : Nat} {v : Value} {y : DataW H × List MemPlace} (h : DataW.trod enc Tryz.prog w 0 spare held fuel 25 [v] = some y) :
    ∃ (a : Option Addr) (n c : Nat) (V : Nat → Veh), v = .slice a n c ∧ n ≤ 9223372036854775807 ∧ SliceAt w a n 7 (fun i => (V i).cells) := by
  rcases open_slice Tryz.underlying25 h with ⟨hcs, -⟩ | ⟨a, len, cap, m, n, D, Pl, hcs, -, hl, hm, hmm, -, hx⟩
  · simp at hcs
    exact ⟨none, 0, 0, fun _ => ⟨0, 0, 0, 0, 0, 0, 0⟩, hcs, by omega, Or.inl rfl⟩
  · simp at hcs
    have hlm : len ≤ m := by rw [hmm]; split <;> omega
    rw [show Tryz.prog.cellsOf 140 = 7 from by kernel_rfl] at hx
    have hq : ∀ i, i < len → ∃ V : Veh, w.cells? 0 (a.add (i * 7)) 7 = some V.cells := fun i hi => by
      obtain ⟨cs', h1, h2⟩ := hx i (by omega)
      obtain ⟨z0, z1, z2, z3, z4, z5, z6, rfl⟩ := vehicle h2
      exact ⟨⟨z0, z1, z2, z3, z4, z5, z6⟩, h1⟩
    have : Inhabited Veh := ⟨⟨0, 0, 0, 0, 0, 0, 0⟩⟩
    obtain ⟨V, hV⟩ := choose_lt hq
    unfold maxLen at hm
    exact ⟨some a, len, cap, V, hcs, by omega, slice_open (by omega) hV⟩

theorem requests {H : Type} {enc : TypeId × Value → H} {w : World} {spare : Nat → Bool} {held : Bool} {fuel : Nat} {v : Value} {y : DataW H × List MemPlace} (h : DataW.trod enc Tryz.prog w 0 spare held fuel 26 [v] = some y) :
    ∃ (a : Option Addr) (n c : Nat) (V : Nat → Req), v = .slice a n c ∧ n ≤ 9223372036854775807 ∧ SliceAt w a n 12 (fun i => (V i).cells) := by
  rcases open_slice Tryz.underlying26 h with ⟨hcs, -⟩ | ⟨a, len, cap, m, n, D, Pl, hcs, -, hl, hm, hmm, -, hx⟩
  · simp at hcs
    exact ⟨none, 0, 0, fun _ => ⟨0, 0, 0, 0, 0, 0, 0, 0, 0, 0, 0, 0⟩, hcs, by omega, Or.inl rfl⟩
  · simp at hcs
    have hlm : len ≤ m := by rw [hmm]; split <;> omega
    rw [show Tryz.prog.cellsOf 143 = 12 from by kernel_rfl] at hx
    have hq : ∀ i, i < len → ∃ V : Req, w.cells? 0 (a.add (i * 12)) 12 = some V.cells := fun i hi => by
      obtain ⟨cs', h1, h2⟩ := hx i (by omega)
      obtain ⟨z0, z1, z2, z3, z4, z5, z6, z7, z8, z9, z10, z11, rfl⟩ := request h2
      exact ⟨⟨z0, z1, z2, z3, z4, z5, z6, z7, z8, z9, z10, z11⟩, h1⟩
    have : Inhabited Req := ⟨⟨0, 0, 0, 0, 0, 0, 0, 0, 0, 0, 0, 0⟩⟩
    obtain ⟨V, hV⟩ := choose_lt hq
    unfold maxLen at hm
    exact ⟨some a, len, cap, V, hcs, by omega, slice_open (by omega) hV⟩

theorem roads {H : Type} {enc : TypeId × Value → H} {w : World} {spare : Nat → Bool} {held : Bool} {fuel : Nat} {v : Value} {y : DataW H × List MemPlace} (h : DataW.trod enc Tryz.prog w 0 spare held fuel 27 [v] = some y) :
    ∃ (a : Option Addr) (n c : Nat) (V : Nat → Rd), v = .slice a n c ∧ n ≤ 9223372036854775807 ∧ SliceAt w a n 3 (fun i => (V i).cells) := by
  rcases open_slice Tryz.underlying27 h with ⟨hcs, -⟩ | ⟨a, len, cap, m, n, D, Pl, hcs, -, hl, hm, hmm, -, hx⟩
  · simp at hcs
    exact ⟨none, 0, 0, fun _ => ⟨0, 0, 0⟩, hcs, by omega, Or.inl rfl⟩
  · simp at hcs
    have hlm : len ≤ m := by rw [hmm]; split <;> omega
    rw [show Tryz.prog.cellsOf 145 = 3 from by kernel_rfl] at hx
    have hq : ∀ i, i < len → ∃ V : Rd, w.cells? 0 (a.add (i * 3)) 3 = some V.cells := fun i hi => by
      obtain ⟨cs', h1, h2⟩ := hx i (by omega)
      obtain ⟨z0, z1, z2, rfl⟩ := road h2
      exact ⟨⟨z0, z1, z2⟩, h1⟩
    have : Inhabited Rd := ⟨⟨0, 0, 0⟩⟩
    obtain ⟨V, hV⟩ := choose_lt hq
    unfold maxLen at hm
    exact ⟨some a, len, cap, V, hcs, by omega, slice_open (by omega) hV⟩

set_option maxRecDepth 100000 in
/-- An argument that is an instance. -/
theorem inst {H : Type} {enc : TypeId × Value → H} {w : World} {spare : Nat → Bool} {held : Bool} {r : Reach} {b0 : Nat} {v : Value} {d : DataW H} {p : List MemPlace} (hv : Value.okWide Tryz.prog w r b0 29 v) (h : DataW.Trod enc Tryz.prog w 0 spare held 29 v d p) :
    ∃ (a1 a2 a3 : Option Addr) (c1 c2 c3 : Nat) (I : In), v = .agg #[.slice a1 I.nV c1, .slice a2 I.nQ c2, .slice a3 I.nR c3] ∧ InAt w a1 a2 a3 I ∧ I.nV ≤ 9223372036854775807 ∧ I.nQ ≤ 9223372036854775807 ∧ I.nR ≤ 9223372036854775807 := by
  obtain ⟨u0, u1, u2, y0, y1, y2, n, rfl, -, -, t0, t1, t2⟩ := Joins.open_agg3 Tryz.underlying29 (by kernel_rfl) (show Tryz.prog.cellsOf 29 = 3 from by kernel_rfl) hv h
  obtain ⟨a1, n1, c1, V, rfl, b1, s1⟩ := vehicles t0
  obtain ⟨a2, n2, c2, Q, rfl, b2, s2⟩ := requests t1
  obtain ⟨a3, n3, c3, R, rfl, b3, s3⟩ := roads t2
  exact ⟨a1, a2, a3, c1, c2, c3, ⟨n1, n2, n3, V, Q, R⟩, rfl, ⟨s1, s2, s3⟩, b1, b2, b3⟩
end Go.Proofs.YtgooegcmgejfpaaGreatDoor.Open
namespace Go.Proofs.YtgooegcmgejfpaaGreatDoor.OpenN
open Go Go.RowKit Go.Deep Go.Proofs.YtgooegcmgejfpaaGreatDoor.Mem
set_option linter.unusedVariables false

theorem nums {H : Type} {enc : TypeId × Value → H} {w : World} {spare : Nat → Bool} {held : Bool} {fuel : Nat} {v : Value} {y : DataW H × List MemPlace} (h : DataW.trod enc Tryz.prog w 0 spare held fuel 32 [v] = some y) :
    ∃ (a : Option Addr) (n c : Nat) (V : Nat → Int), v = .slice a n c ∧ n ≤ 9223372036854775807 ∧ NumsAt w a n V := by
  rcases open_slice Tryz.underlying32 h with ⟨hcs, -⟩ | ⟨a, len, cap, m, n, D, Pl, hcs, -, hl, hm, hmm, -, hx⟩
  · simp at hcs
    exact ⟨none, 0, 0, fun _ => 0, hcs, by omega, Or.inl rfl⟩
  · simp at hcs
    have hlm : len ≤ m := by rw [hmm]; split <;> omega
    rw [show Tryz.prog.cellsOf 2 = 1 from by kernel_rfl] at hx
    have hq : ∀ i, i < len → ∃ V : Int, w.cells? 0 (a.add (i * 1)) 1 = some (ci V) := fun i hi => by
      obtain ⟨cs', h1, h2⟩ := hx i (by omega)
      obtain ⟨z0, hz, -, -⟩ := DataW.trod_int Tryz.underlying2 h2
      subst hz
      exact ⟨z0, h1⟩
    obtain ⟨V, hV⟩ := choose_lt hq
    unfold maxLen at hm
    exact ⟨some a, len, cap, V, hcs, by omega, Open.slice_open (by omega) hV⟩
set_option maxRecDepth 100000 in
/-- An argument that is a list of numbers. -/
theorem numsArg {H : Type} {enc : TypeId × Value → H} {w : World} {spare : Nat → Bool} {held : Bool} {r : Reach} {b0 : Nat} {v : Value} {d : DataW H} {p : List MemPlace} (hv : Value.okWide Tryz.prog w r b0 32 v) (h : DataW.Trod enc Tryz.prog w 0 spare held 32 v d p) :
    ∃ (a : Option Addr) (n c : Nat) (V : Nat → Int), v = .slice a n c ∧ n ≤ 9223372036854775807 ∧ NumsAt w a n V := by
  obtain ⟨a, len, cap, rfl⟩ := WideShapes.okWide_slice Tryz.underlying32 hv
  obtain ⟨m, hm⟩ := h
  exact nums hm
end Go.Proofs.YtgooegcmgejfpaaGreatDoor.OpenN
namespace Go.Proofs.YtgooegcmgejfpaaGreatDoor.RowV
open Go.ChangeShapes Go.WideShapes Go.ChangeAt Go.RowKit
set_option linter.unusedVariables false

/-- A named variable's type can be read. -/
def varOk (P : Program) (n : String) : Bool :=
  match P.globalNamed n with
  | none => true
  | some g => match (P.globals[g]?).map (·.type) with
    | none => true
    | some t => P.readableRec t && decide (t < P.types.size)
theorem var_lt {P : Program} {W : World} {n : String} {g : Nat} {cs : Array Value} (hg : P.globalNamed n = some g) (hv : W.var? P n = some cs) : g < W.heap.size := by
  unfold World.var? at hv
  simp only [hg, Option.bind_some] at hv
  split at hv
  · rename_i h; exact (Array.getElem?_eq_some_iff.1 h).1
  · cases hv
/-- What a call that writes nothing old leaves of the named variables. -/
theorem vars_stay {H : Type} {enc : TypeId × Value → H} {P : Program} (hl : laidOutB P = true) {W W' : World} (hb : Below W.heap.size W W') : ∀ {ns : List String} {gs : List (DataW H)} {q : List MemPlace}, DataW.TrodVars enc P W (fun _ => true) ns gs q → ns.all (varOk P) = true → DataW.TrodVars enc P W' (fun b => decide (b < W.heap.size)) ns gs q
  | [], [], q, h, _ => h
  | [], _ :: _, q, h, _ => by simp [DataW.TrodVars] at h
  | _ :: _, [], q, h, _ => by simp [DataW.TrodVars] at h
  | n :: ns, d :: ds, q, h, ha => by
    obtain ⟨g, t, cs, fuel, p, q', h1, h2, h3, h4, h5, h6⟩ := h
    rw [List.all_cons, Bool.and_eq_true] at ha
    have ok := ha.1
    unfold varOk at ok
    rw [h1] at ok
    simp only [h2, Bool.and_eq_true, decide_eq_true_eq] at ok
    have hlt := DataW.trod_lt fuel _ _ _ h4
    refine ⟨g, t, cs, fuel, p, q', h1, h2, var?_below hb h1 (var_lt h1 h3) h3, ?_, vars_stay hl hb h5 ha.2, h6⟩
    exact DataW.trod_stays (Go.kids_book hl ok.1) (Go.book_sized ok.1) (fun h => by cases h) ⟨ok.2, Go.book_self t⟩ h4 (fun x hx => hb.same (hlt x hx)) (fun x hx => by simpa using hlt x hx)
theorem vars_len {H : Type} {enc : TypeId × Value → H} {P : Program} {W : World} {sp : Nat → Bool} : ∀ {ns : List String} {gs : List (DataW H)} {q : List MemPlace}, DataW.TrodVars enc P W sp ns gs q → gs.length = ns.length
  | [], [], q, h => rfl
  | [], _ :: _, q, h => by simp [DataW.TrodVars] at h
  | _ :: _, [], q, h => by simp [DataW.TrodVars] at h
  | n :: ns, d :: ds, q, h => by
    obtain ⟨g, t, cs, fuel, p, q', h1, h2, h3, h4, h5, h6⟩ := h
    simp [vars_len h5]
end Go.Proofs.YtgooegcmgejfpaaGreatDoor.RowV
