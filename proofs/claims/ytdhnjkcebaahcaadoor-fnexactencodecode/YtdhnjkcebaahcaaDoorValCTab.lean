import Derived.Test.YtdhnjkcebaahcaaDoorRows
import Derived.Test.YtdhnjkcebaahcaaDoorValCI
import Derived.Lib.LaidTab
import Derived.LaidLaws
import Derived.ChangeArms
namespace Go.Proofs.YtdhnjkcebaahcaaDoor.ValC
open Go Go.RowKit Go.Proofs.YtdhnjkcebaahcaaDoor.Mem
set_option linter.unusedVariables false

/-- An array of records of three numbers, cell for cell. -/
theorem rows3 {H : Type} {enc : TypeId × Value → H} {P : Program} {w : World} {base : Nat} {sp : Nat → Bool} {held : Bool} {fuel : Nat} {t e ti : TypeId} {n : Nat} {f0 f1 f2 : Field} {cs : List Value} {ds : List (DataW H)} {p : List MemPlace}
    (ht : P.underlying t = some (.array n e)) (he : P.underlying e = some (.struct #[f0, f1, f2])) (hi : P.underlying ti = some (.int .i64)) (h0 : f0.type = ti ∧ f0.offset = 0) (h1 : f1.type = ti ∧ f1.offset = 1) (h2 : f2.type = ti ∧ f2.offset = 2) (hci : P.cellsOf ti = 1) (hce : P.cellsOf e = 3) (hct : P.cellsOf t = n * 3)
    (h : DataW.trod enc P w base sp held fuel t cs = some (.agg ds, p)) : ∀ i, i < n → ∃ z0 z1 z2 : Int, cs[i * 3]? = some (.int .i64 z0) ∧ cs[i * 3 + 1]? = some (.int .i64 z1) ∧ cs[i * 3 + 2]? = some (.int .i64 z2) ∧ ds[i]? = some (.agg [.lit (.int .i64 z0), .lit (.int .i64 z1), .lit (.int .i64 z2)]) := by
  cases fuel with
  | zero => simp [DataW.trod] at h
  | succ fuel =>
    simp only [DataW.trod, ht, hce, hct] at h
    split at h
    · obtain ⟨xs, hm, hx⟩ := Option.map_eq_some_iff.1 h
      have hds : ds = xs.map (·.1) := by
        have := congrArg Prod.fst hx
        simp only [DataW.agg.injEq] at this
        exact this.symm
      intro i hin
      obtain ⟨y, hy, hf⟩ := Lib.mapM_at hm i i (by simp [hin])
      obtain ⟨ys, m, -, hyx, -, hyl, hff⟩ := DataW.trod_struct he hf
      have g0 := (hff 0 f0 rfl).trans (List.getElem?_eq_getElem (show 0 < ys.length by rw [hyl]; simp))
      have g1 := (hff 1 f1 rfl).trans (List.getElem?_eq_getElem (show 1 < ys.length by rw [hyl]; simp))
      have g2 := (hff 2 f2 rfl).trans (List.getElem?_eq_getElem (show 2 < ys.length by rw [hyl]; simp))
      rw [h0.1, h0.2, hci] at g0
      rw [h1.1, h1.2, hci] at g1
      rw [h2.1, h2.2, hci] at g2
      obtain ⟨z0, a0, b0, -⟩ := DataW.trod_int hi g0
      obtain ⟨z1, a1, b1, -⟩ := DataW.trod_int hi g1
      obtain ⟨z2, a2, b2, -⟩ := DataW.trod_int hi g2
      have key : ∀ (j : Nat) (z : Int), j < 3 → List.take 1 (List.drop j (List.take 3 (List.drop (i * 3) cs))) = [Value.int .i64 z] → cs[i * 3 + j]? = some (.int .i64 z) := fun j z hj ha => by
        have := congrArg (·[0]?) ha
        simpa [List.getElem?_take, List.getElem?_drop, hj] using this
      refine ⟨z0, z1, z2, key 0 z0 (by omega) a0, key 1 z1 (by omega) a1, key 2 z2 (by omega) a2, ?_⟩
      rw [hds, List.getElem?_map, hy]
      match ys, hyl with
      | [y0, y1, y2], _ =>
        simp only [List.getElem_cons_zero, List.getElem_cons_succ] at b0 b1 b2
        rw [hyx, b0, b1, b2]
        rfl
    · cases h

theorem shData : (Rows.laid_loop_example_s0023_impl_insShapes : DataW Unit) = .agg (shTab.map fun x => .agg [.lit (.int .i64 x.1), .lit (.int .i64 x.2.1), .lit (.int .i64 x.2.2)]) := by kernel_rfl
theorem gSh : Tryd.prog.globalNamed "loop.example/s0023/impl.insShapes" = some 0 := by kernel_rfl
theorem gShType : (Tryd.prog.globals[0]?).map (·.type) = some 141 := by kernel_rfl
theorem cShT : Tryd.prog.cellsOf 141 = 21 * 3 := by kernel_rfl
theorem cSh : Tryd.prog.cellsOf 140 = 3 := by kernel_rfl
theorem cInt : Tryd.prog.cellsOf 3 = 1 := by kernel_rfl

/-- What the row's list gives: the table. -/
theorem tabC {W : World} (h : laidMet Tryd.prog [("loop.example/s0023/impl.insShapes", Rows.laid_loop_example_s0023_impl_insShapes)] W) : TabC W := by
  obtain ⟨ps, ⟨g', t', cs, fuel, p, q, hg', ht', hvar, hd, _, _⟩, _⟩ := h
  obtain rfl := Option.some.inj (gSh.symm.trans hg')
  obtain rfl := Option.some.inj (gShType.symm.trans ht')
  rw [shData] at hd
  intro m hm
  obtain ⟨z0, z1, z2, a0, a1, a2, hz⟩ := rows3 Tryd.underlying141 Tryd.underlying140 Tryd.underlying3 ⟨rfl, rfl⟩ ⟨rfl, rfl⟩ ⟨rfl, rfl⟩ cInt cSh cShT hd m hm
  have hl : m < shTab.length := hm
  have hs : sh m = shTab[m] := by unfold sh; simp [List.getD, hl]
  rw [List.getElem?_map, List.getElem?_eq_getElem hl] at hz
  simp only [Option.map_some, Option.some.injEq, DataW.agg.injEq, List.cons.injEq, DataW.lit.injEq, Lit.int.injEq, true_and, and_true] at hz
  have hv := fun i => World.var?_cell gSh hvar i
  rw [hv, hv, hv, hs, hz.1, hz.2.1, hz.2.2]
  simp only [Array.getElem?_toList] at a0 a1 a2
  exact ⟨a0, a1, a2⟩
end Go.Proofs.YtdhnjkcebaahcaaDoor.ValC
