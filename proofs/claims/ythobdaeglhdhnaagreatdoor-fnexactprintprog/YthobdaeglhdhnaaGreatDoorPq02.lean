import Derived.Test.YthobdaeglhdhnaaGreatDoorRows
import Derived.Test.YthobdaeglhdhnaaGreatDoorPq01
import Derived.Lib.LaidTab
import Derived.LaidLaws
import Derived.ChangeArms
import Derived.Stop.LaidErr
namespace Go.Proofs.YthobdaeglhdhnaaGreatDoor.LawPP
open Go Go.RowKit Go.Proofs.YthobdaeglhdhnaaGreatDoor.Mem Go.Proofs.YthobdaeglhdhnaaGreatDoor.Syn
set_option linter.unusedVariables false

/-- An array of strings, cell for cell. -/
theorem strs {H : Type} {enc : TypeId × Value → H} {P : Program} {w : World} {base : Nat} {sp : Nat → Bool} {held : Bool} {fuel : Nat} {t e : TypeId} {n : Nat} {cs : List Value} {ds : List (DataW H)} {p : List MemPlace}
    (ht : P.underlying t = some (.array n e)) (he : P.underlying e = some .string) (hce : P.cellsOf e = 1) (hct : P.cellsOf t = n)
    (h : DataW.trod enc P w base sp held fuel t cs = some (.agg ds, p)) : ∀ i, i < n → ∃ s : ByteArray, cs[i]? = some (.string s) ∧ ds[i]? = some (.lit (.string s.data.toList)) := by
  cases fuel with
  | zero => simp [DataW.trod] at h
  | succ fuel =>
    simp only [DataW.trod, ht, hce, hct] at h
    split at h
    · obtain ⟨xs, hm, hx⟩ := Option.map_eq_some_iff.1 h
      have hds : ds = xs.map (·.1) := by
        have := congrArg Prod.fst hx
        simp only [DataW.agg.injEq] at this
        exact this.symm
      intro i hin
      obtain ⟨y, hy, hf⟩ := Lib.mapM_at hm i i (by simp [hin])
      obtain ⟨s, a0, b0, -⟩ := DataW.trod_string he hf
      refine ⟨s, ?_, ?_⟩
      · have := congrArg (·[0]?) a0
        simpa [List.getElem?_take, List.getElem?_drop] using this
      · rw [hds, List.getElem?_map, hy, b0]
        rfl
    · cases h
/-- An array of records of three truths and three numbers, cell for cell. -/
theorem rows6 {H : Type} {enc : TypeId × Value → H} {P : Program} {w : World} {base : Nat} {sp : Nat → Bool} {held : Bool} {fuel : Nat} {t e tb ti : TypeId} {n : Nat} {f0 f1 f2 f3 f4 f5 : Field} {cs : List Value} {ds : List (DataW H)} {p : List MemPlace}
    (ht : P.underlying t = some (.array n e)) (he : P.underlying e = some (.struct #[f0, f1, f2, f3, f4, f5])) (hbt : P.underlying tb = some .bool) (hi : P.underlying ti = some (.int .i64)) (h0 : f0.type = tb ∧ f0.offset = 0) (h1 : f1.type = tb ∧ f1.offset = 1) (h2 : f2.type = tb ∧ f2.offset = 2) (h3 : f3.type = ti ∧ f3.offset = 3) (h4 : f4.type = ti ∧ f4.offset = 4) (h5 : f5.type = ti ∧ f5.offset = 5) (hcb : P.cellsOf tb = 1) (hci : P.cellsOf ti = 1) (hce : P.cellsOf e = 6) (hct : P.cellsOf t = n * 6)
    (h : DataW.trod enc P w base sp held fuel t cs = some (.agg ds, p)) : ∀ i, i < n → ∃ (b0 b1 b2 : Bool) (z3 z4 z5 : Int), cs[i * 6]? = some (.bool b0) ∧ cs[i * 6 + 1]? = some (.bool b1) ∧ cs[i * 6 + 2]? = some (.bool b2) ∧ cs[i * 6 + 3]? = some (.int .i64 z3) ∧ cs[i * 6 + 4]? = some (.int .i64 z4) ∧ cs[i * 6 + 5]? = some (.int .i64 z5) ∧ ds[i]? = some (.agg [.lit (.bool b0), .lit (.bool b1), .lit (.bool b2), .lit (.int .i64 z3), .lit (.int .i64 z4), .lit (.int .i64 z5)]) := by
  cases fuel with
  | zero => simp [DataW.trod] at h
  | succ fuel =>
    simp only [DataW.trod, ht, hce, hct] at h
    split at h
    · obtain ⟨xs, hm, hx⟩ := Option.map_eq_some_iff.1 h
      have hds : ds = xs.map (·.1) := by
        have := congrArg Prod.fst hx
        simp only [DataW.agg.injEq] at this
        exact this.symm
      intro i hin
      obtain ⟨y, hy, hf⟩ := Lib.mapM_at hm i i (by simp [hin])
      obtain ⟨ys, m, -, hyx, -, hyl, hff⟩ := DataW.trod_struct he hf
      have g0 := (hff 0 f0 rfl).trans (List.getElem?_eq_getElem (show 0 < ys.length by rw [hyl]; simp))
      have g1 := (hff 1 f1 rfl).trans (List.getElem?_eq_getElem (show 1 < ys.length by rw [hyl]; simp))
      have g2 := (hff 2 f2 rfl).trans (List.getElem?_eq_getElem (show 2 < ys.length by rw [hyl]; simp))
      have g3 := (hff 3 f3 rfl).trans (List.getElem?_eq_getElem (show 3 < ys.length by rw [hyl]; simp))
      have g4 := (hff 4 f4 rfl).trans (List.getElem?_eq_getElem (show 4 < ys.length by rw [hyl]; simp))
      have g5 := (hff 5 f5 rfl).trans (List.getElem?_eq_getElem (show 5 < ys.length by rw [hyl]; simp))
      rw [h0.1, h0.2, hcb] at g0
      rw [h1.1, h1.2, hcb] at g1
      rw [h2.1, h2.2, hcb] at g2
      rw [h3.1, h3.2, hci] at g3
      rw [h4.1, h4.2, hci] at g4
      rw [h5.1, h5.2, hci] at g5
      obtain ⟨z0, a0, b0⟩ := DataW.trod_bool hbt g0
      obtain ⟨z1, a1, b1⟩ := DataW.trod_bool hbt g1
      obtain ⟨z2, a2, b2⟩ := DataW.trod_bool hbt g2
      obtain ⟨z3, a3, b3, -⟩ := DataW.trod_int hi g3
      obtain ⟨z4, a4, b4, -⟩ := DataW.trod_int hi g4
      obtain ⟨z5, a5, b5, -⟩ := DataW.trod_int hi g5
      have key : ∀ (j : Nat) (z : Value), j < 6 → List.take 1 (List.drop j (List.take 6 (List.drop (i * 6) cs))) = [z] → cs[i * 6 + j]? = some z := fun j z hj ha => by
        have := congrArg (·[0]?) ha
        simpa [List.getElem?_take, List.getElem?_drop, hj] using this
      refine ⟨z0, z1, z2, z3, z4, z5, key 0 _ (by omega) a0, key 1 _ (by omega) a1, key 2 _ (by omega) a2, key 3 _ (by omega) a3, key 4 _ (by omega) a4, key 5 _ (by omega) a5, ?_⟩
      rw [hds, List.getElem?_map, hy]
      match ys, hyl with
      | [y0, y1, y2, y3, y4, y5], _ =>
        simp only [List.getElem_cons_zero, List.getElem_cons_succ] at b0 b1 b2 b3 b4 b5
        rw [hyx, b0, b1, b2, b3, b4, b5]
        rfl
    · cases h

theorem twData : (Rows.laid_loop_example_s0023_impl_tokenWords : DataW Unit) = .agg (tw.map fun s => .lit (.string s)) := by kernel_rfl
theorem gTw : Tryz.prog.globalNamed "loop.example/s0023/impl.tokenWords" = some 0 := by kernel_rfl
theorem gTwType : (Tryz.prog.globals[0]?).map (·.type) = some 58 := by kernel_rfl
theorem cTwT : Tryz.prog.cellsOf 58 = 50 := by kernel_rfl
theorem cTw : Tryz.prog.cellsOf 9 = 1 := by kernel_rfl
theorem tabW {W : World} {rest : List (String × DataW Unit)} (h : laidMet Tryz.prog (("loop.example/s0023/impl.tokenWords", Rows.laid_loop_example_s0023_impl_tokenWords) :: rest) W) : TabW W := by
  obtain ⟨ps, ⟨g', t', cs, fuel, p, q, hg', ht', hvar, hd, _, _⟩, _⟩ := h
  obtain rfl := Option.some.inj (gTw.symm.trans hg')
  obtain rfl := Option.some.inj (gTwType.symm.trans ht')
  rw [twData] at hd
  intro m hm
  obtain ⟨s, a0, hz⟩ := strs Tryz.underlying58 Tryz.underlying9 cTw cTwT hd m hm
  have hl : m < tw.length := hm
  have hs : twAt m = tw[m] := by unfold twAt; simp [List.getD, hl]
  rw [List.getElem?_map, List.getElem?_eq_getElem hl] at hz
  simp only [Option.map_some, Option.some.injEq, DataW.lit.injEq, Lit.string.injEq] at hz
  have hv := World.var?_cell gTw hvar m
  rw [hv, hs, hz]
  simp only [Array.getElem?_toList] at a0
  rw [a0]
theorem isData : (Rows.laid_loop_example_s0023_impl_itemShapes : DataW Unit) = .agg (shTab.map fun x => .agg [.lit (.bool x.n), .lit (.bool x.e), .lit (.bool x.f), .lit (.int .i64 x.k), .lit (.int .i64 x.lo), .lit (.int .i64 x.hi)]) := by kernel_rfl
theorem gIs : Tryz.prog.globalNamed "loop.example/s0023/impl.itemShapes" = some 1 := by kernel_rfl
theorem gIsType : (Tryz.prog.globals[1]?).map (·.type) = some 79 := by kernel_rfl
theorem cIsT : Tryz.prog.cellsOf 79 = 10 * 6 := by kernel_rfl
theorem cIs : Tryz.prog.cellsOf 78 = 6 := by kernel_rfl
theorem cBo : Tryz.prog.cellsOf 4 = 1 := by kernel_rfl
theorem cIn : Tryz.prog.cellsOf 3 = 1 := by kernel_rfl
theorem tabS {W : World} {rest : List (String × DataW Unit)} (h : laidMet Tryz.prog (("loop.example/s0023/impl.itemShapes", Rows.laid_loop_example_s0023_impl_itemShapes) :: rest) W) : TabS W := by
  obtain ⟨ps, ⟨g', t', cs, fuel, p, q, hg', ht', hvar, hd, _, _⟩, _⟩ := h
  obtain rfl := Option.some.inj (gIs.symm.trans hg')
  obtain rfl := Option.some.inj (gIsType.symm.trans ht')
  rw [isData] at hd
  intro m hm
  obtain ⟨z0, z1, z2, z3, z4, z5, a0, a1, a2, a3, a4, a5, hz⟩ := rows6 Tryz.underlying79 Tryz.underlying78 Tryz.underlying4 Tryz.underlying3 ⟨rfl, rfl⟩ ⟨rfl, rfl⟩ ⟨rfl, rfl⟩ ⟨rfl, rfl⟩ ⟨rfl, rfl⟩ ⟨rfl, rfl⟩ cBo cIn cIs cIsT hd m hm
  have hl : m < shTab.length := hm
  have hs : sh m = shTab[m] := by unfold sh; simp [List.getD, hl]
  rw [List.getElem?_map, List.getElem?_eq_getElem hl] at hz
  simp only [Option.map_some, Option.some.injEq, DataW.agg.injEq, List.cons.injEq, DataW.lit.injEq, Lit.int.injEq, Lit.bool.injEq, true_and, and_true] at hz
  obtain ⟨q0, q1, q2, q3, q4, q5⟩ := hz
  have hv := fun i => World.var?_cell gIs hvar i
  simp only [Array.getElem?_toList] at a0 a1 a2 a3 a4 a5
  rw [hv, hv, hv, hv, hv, hv, hs, q0, q1, q2, q3, q4, q5]
  exact ⟨a0, a1, a2, a3, a4, a5⟩
theorem gOv : Tryz.prog.globalNamed "loop.example/s0023/impl.opValMax" = some 2 := by kernel_rfl
theorem gOvType : (Tryz.prog.globals[2]?).map (·.type) = some 126 := by kernel_rfl
theorem cOvT : Tryz.prog.cellsOf 126 = 11 := by kernel_rfl
theorem cI64 : Tryz.prog.cellsOf 2 = 1 := by kernel_rfl
theorem ovIs : (Rows.laid_loop_example_s0023_impl_opValMax : DataW Unit) = Lib.tabData .i64 [0, 999999999, 0, 12, 15, 15, 1, 0, 0, 7, 2] := by kernel_rfl
theorem tabO {W : World} {rest : List (String × DataW Unit)} (h : laidMet Tryz.prog (("loop.example/s0023/impl.opValMax", Rows.laid_loop_example_s0023_impl_opValMax) :: rest) W) : TabO W := by
  rw [ovIs] at h
  have ht := Lib.tabIs_of_head gOv gOvType Tryz.underlying126 Tryz.underlying2 cI64 cOvT h
  intro m hm
  rw [ht.cell gOv m hm]
  have : m = 0 ∨ m = 1 ∨ m = 2 ∨ m = 3 ∨ m = 4 ∨ m = 5 ∨ m = 6 ∨ m = 7 ∨ m = 8 ∨ m = 9 ∨ m = 10 := by omega
  rcases this with rfl | rfl | rfl | rfl | rfl | rfl | rfl | rfl | rfl | rfl | rfl <;> rfl
theorem gBs : Tryz.prog.globalNamed "loop.example/s0023/impl.binStrengths" = some 3 := by kernel_rfl
theorem gBsType : (Tryz.prog.globals[3]?).map (·.type) = some 134 := by kernel_rfl
theorem cBsT : Tryz.prog.cellsOf 134 = 8 := by kernel_rfl
theorem bsIs : (Rows.laid_loop_example_s0023_impl_binStrengths : DataW Unit) = Lib.tabData .i64 [5, 4, 4, 3, 3, 3, 2, 1] := by kernel_rfl
theorem tabB {W : World} {rest : List (String × DataW Unit)} (h : laidMet Tryz.prog (("loop.example/s0023/impl.binStrengths", Rows.laid_loop_example_s0023_impl_binStrengths) :: rest) W) : TabB W := by
  rw [bsIs] at h
  have ht := Lib.tabIs_of_head gBs gBsType Tryz.underlying134 Tryz.underlying3 cIn cBsT h
  intro m hm
  rw [ht.cell gBs m hm]
  have : m = 0 ∨ m = 1 ∨ m = 2 ∨ m = 3 ∨ m = 4 ∨ m = 5 ∨ m = 6 ∨ m = 7 := by omega
  rcases this with rfl | rfl | rfl | rfl | rfl | rfl | rfl | rfl <;> rfl
theorem gTab : Tryz.prog.globalNamed "internal/strconv.uint64pow10" = some 4 := by kernel_rfl
theorem gTabType : (Tryz.prog.globals[4]?).map (·.type) = some 137 := by kernel_rfl
theorem cellsTab : Tryz.prog.cellsOf 137 = 20 := by kernel_rfl
theorem cellsU64 : Tryz.prog.cellsOf 115 = 1 := by kernel_rfl
theorem tabIs : (Rows.laid_internal_strconv_uint64pow10 : DataW Unit) = Lib.tabData .u64 Lib.pow10Tab := by kernel_rfl
/-- What the row's list gives: the tables. -/
theorem tables {W : World} (h : laidMet Tryz.prog Rows.fnExactPrintProgRow.laid W) : Tbs W := by
  have h0 : laidMet Tryz.prog [("math/bits.deBruijn32tab", Rows.laid_math_bits_deBruijn32tab), ("math/bits.deBruijn64tab", Rows.laid_math_bits_deBruijn64tab), ("internal/strconv.uint64pow10", Rows.laid_internal_strconv_uint64pow10), ("loop.example/s0023/impl.tokenWords", Rows.laid_loop_example_s0023_impl_tokenWords), ("loop.example/s0023/impl.binStrengths", Rows.laid_loop_example_s0023_impl_binStrengths), ("loop.example/s0023/impl.opValMax", Rows.laid_loop_example_s0023_impl_opValMax), ("loop.example/s0023/impl.itemShapes", Rows.laid_loop_example_s0023_impl_itemShapes)] W := h
  have h2 := h0.tail.tail
  have h3 := h2.tail
  have h4 := h3.tail
  have h5 := h4.tail
  have h6 := h5.tail
  refine ⟨⟨tabW h3, tabO h5, tabB h4⟩, tabS h6, ?_⟩
  rw [tabIs] at h2
  exact Lib.tabIs_of_head gTab gTabType Tryz.underlying137 Tryz.underlying115 cellsU64 cellsTab h2
end Go.Proofs.YthobdaeglhdhnaaGreatDoor.LawPP
