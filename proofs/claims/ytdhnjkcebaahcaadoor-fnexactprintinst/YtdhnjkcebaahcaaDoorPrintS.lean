import Derived.Test.YtdhnjkcebaahcaaDoorRawS
import Derived.Test.YtdhnjkcebaahcaaDoorPrintI
import Derived.Test.YtdhnjkcebaahcaaDoorMarks
import Derived.Test.YtdhnjkcebaahcaaDoorValidS
namespace Go.Proofs.YtdhnjkcebaahcaaDoor.Print
open Go Go.RowKit Go.Proofs.YtdhnjkcebaahcaaDoor.Mem Go.Proofs.YtdhnjkcebaahcaaDoor.Valid
set_option linter.unusedVariables false
set_option linter.unusedSimpArgs false
attribute [local go_sem ↓] Go.wp_at_zero Go.wp_at_succ

set_option maxHeartbeats 3200000 in
set_option maxRecDepth 100000 in
theorem printS (a1 a2 a3 : Option Addr) (c1 c2 c3 : Nat) (I : In) (w : World) (h : InAt w a1 a2 a3 I) (h1 : I.nV ≤ 1048576) (h2 : I.nQ ≤ 1048576) (h3 : I.nR ≤ 1048576) :
    Calls Tryd.prog 8 #[.agg #[.slice a1 I.nV c1, .slice a2 I.nQ c2, .slice a3 I.nR c3]] w fun e w' => ∃ v, e = .returned v ∧ Own w.heap.size w' v (answer I) ∧ Below w.heap.size w w' := by
  have H := Hid.mk h
  clear h
  cases hv : validB I with
  | false =>
    have HA : Hid (answer I = []) := by unfold Hid answer; rw [if_neg (by rw [hv]; exact Bool.false_ne_true)]
    go_enter Tryd.func8, Tryd.ntmps8
    go_wp2_with fail
    refine (validS a1 a2 a3 c1 c2 c3 I _ (H.out.below (below_alloc' (Below.refl _ _) _)) h1 h2 h3).mono ?_
    rintro e w1 ⟨rfl, hb1⟩
    have hb := Hid.mk (below_then (w := w) (below_alloc' (Below.refl _ _) _) hb1)
    clear hb1
    go_wp2
    go_ret
    exact ⟨_, rfl, by rw [HA.out]; exact Joins.ownsRow_le (own_empty w1 _ rfl) hb.out.size, hb.out.alloc hb.out.size _⟩
  | true =>
    have HA : Hid (answer I = text I) := by unfold Hid answer; rw [if_pos hv]
    have G := Hid.mk (good hv)
    go_enter Tryd.func8, Tryd.ntmps8
    go_wp2_with fail
    refine (validS a1 a2 a3 c1 c2 c3 I _ (H.out.below (below_alloc' (Below.refl _ _) _)) h1 h2 h3).mono ?_
    rintro e w1 ⟨rfl, hb1⟩
    have hx := Hid.mk (blk_below (blk_new w _) hb1)
    have hb := Hid.mk (below_then (w := w) (below_alloc' (Below.refl _ _) _) hb1)
    clear hb1
    have x0 := blk_cell hx.out 0
    have x1 := blk_cell hx.out 1
    have x2 := blk_cell hx.out 2
    simp only [List.getElem?_toArray, List.getElem?_cons_zero, List.getElem?_cons_succ] at x0 x1 x2
    go_wp2_with fail
    clear x0 x1 x2
    refine (rawS a1 a2 a3 c1 c2 c3 I _ (H.out.below hb.out) G.out).mono ?_
    rintro e w2 ⟨v, rfl, ho, hb2⟩
    have HB2 := Hid.mk (below_then hb.out hb2)
    have HO := Hid.mk (Joins.ownsRow_le ho hb.out.size)
    clear hb2 ho
    go_wp2
    go_ret
    exact ⟨v, rfl, by rw [HA.out]; exact HO.out, HB2.out⟩

theorem answer_len (I : In) : (answer I).length ≤ 100000000 := by
  unfold answer
  split
  · rename_i hv
    have := rowsR_len (good hv) (Nat.le_refl I.nR)
    unfold text
    omega
  · simp
theorem printSA (a1 a2 a3 : Option Addr) (c1 c2 c3 : Nat) (I : In) (N : Nat) (w : World) (hN : N = (answer I).length) (h : InAt w a1 a2 a3 I) (h1 : I.nV ≤ 1048576) (h2 : I.nQ ≤ 1048576) (h3 : I.nR ≤ 1048576) :
    Calls Tryd.prog 8 #[.agg #[.slice a1 I.nV c1, .slice a2 I.nQ c2, .slice a3 I.nR c3]] w fun e w' => ∃ a c, e = .returned (.slice a N c) ∧ Marks.At w.heap.size w'.heap.size w' a (answer I) ∧ Below w.heap.size w w' := by
  refine (printS a1 a2 a3 c1 c2 c3 I w h h1 h2 h3).mono ?_
  rintro e w1 ⟨v, rfl, ho, hb⟩
  obtain ⟨a, c, rfl, hat⟩ := Marks.Own.lies ho
  exact ⟨a, c, by rw [hN], hat, hb⟩
theorem printIA (a1 a2 a3 : Option Addr) (c1 c2 c3 : Nat) (I : In) (N : Nat) (w : World) (hN : N = (answer I).length) (h : InAt w a1 a2 a3 I) (h1 : I.nV ≤ 1048576) (h2 : I.nQ ≤ 1048576) (h3 : I.nR ≤ 1048576) (hT : Tab w.heap.size w) :
    Calls Tryd.prog 10 #[.agg #[.slice a1 I.nV c1, .slice a2 I.nQ c2, .slice a3 I.nR c3]] w fun e w' => ∃ a c, e = .returned (.slice a N c) ∧ Marks.At w.heap.size w'.heap.size w' a (answer I) ∧ Below w.heap.size w w' := by
  refine (printI a1 a2 a3 c1 c2 c3 I w h h1 h2 h3 hT).mono ?_
  rintro e w1 ⟨v, rfl, ho, hb⟩
  obtain ⟨a, c, rfl, hat⟩ := Marks.Own.lies ho
  exact ⟨a, c, by rw [hN], hat, hb⟩
end Go.Proofs.YtdhnjkcebaahcaaDoor.Print
