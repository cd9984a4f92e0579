import Derived.Test.YtdpmdmgjlpiikaaLegS
import Derived.Deep.DrawnRows
import Derived.Lib.QuietBelow
import Derived.Test.YtdpmdmgjlpiikaaValidS
namespace Go.Proofs.Ytdpmdmgjlpiikaa.Travel
open Go Go.RowKit Go.Sort Go.Proofs.Ytdpmdmgjlpiikaa.Mem Go.Proofs.Ytdpmdmgjlpiikaa.Valid
set_option linter.unusedVariables false
attribute [local go_sem ↓] Go.wp_at_zero Go.wp_at_succ

/-- The travel time, or -1. -/
def trv (I : In) (a b : Int) : Int := if validB I && inB a 0 (nodes I - 1) && inB b 0 (nodes I - 1) then legV I a b else -1
theorem trv_no {I : In} {a b : Int} (h : (validB I && inB a 0 (nodes I - 1) && inB b 0 (nodes I - 1)) = false) : trv I a b = -1 := by unfold trv; rw [if_neg (by rw [h]; exact Bool.false_ne_true)]
theorem trv_yes {I : In} {a b : Int} (h : (validB I && inB a 0 (nodes I - 1) && inB b 0 (nodes I - 1)) = true) : trv I a b = legV I a b := by unfold trv; rw [if_pos h]
theorem inB_of {x lo hi : Int} (h : inB x lo hi = true) : lo ≤ x ∧ x ≤ hi := by simpa [inB] using h
theorem ret_i {a b : Int} (h : a = b) : Ending.returned (.int .i64 a) = .returned (.int .i64 b) := by rw [h]

set_option maxHeartbeats 4000000 in
theorem travelS (a1 a2 a3 : Option Addr) (c1 c2 c3 : Nat) (I : In) (a b : Int) (w : World) (h : InAt w a1 a2 a3 I) (h1 : I.nV ≤ 1048576) (h2 : I.nQ ≤ 1048576) (h3 : I.nR ≤ 1048576) :
    Calls Try.prog 17 #[.agg #[.slice a1 I.nV c1, .slice a2 I.nQ c2, .slice a3 I.nR c3], .int .i64 a, .int .i64 b] w fun e w' => e = .returned (.int .i64 (trv I a b)) ∧ Below w.heap.size w w' := by
  have H := Hid.mk h
  clear h
  have nb := nodes_bd I h1 h2
  go_enter Try.func17, Try.ntmps17
  go_wp2_with fail
  refine (Valid.validS a1 a2 a3 c1 c2 c3 I _ (H.out.below (by go_grown)) h1 h2 h3).mono ?_
  rintro e w1 ⟨rfl, hb1⟩
  have HB1 := Hid.mk (below_then (w := w) (by go_grown) hb1)
  have A1 := Hid.mk (blk_below (blk_new w _) hb1)
  clear hb1
  cases g0 : validB I with
  | false =>
    have ht : Hid (trv I a b = -1) := trv_no (by simp [g0])
    go_wp2
    go_ret
    exact ⟨ret_i ht.out.symm, HB1.out⟩
  | true =>
    have x0 := blk_cell A1.out 0
    have x1 := blk_cell A1.out 1
    have x2 := blk_cell A1.out 2
    simp only [List.getElem?_toArray, List.getElem?_cons_zero, List.getElem?_cons_succ] at x0 x1 x2
    go_wp2_with fail
    refine (nodesS a1 a2 a3 c1 c2 c3 I _ h1 h2).mono ?_
    rintro e w2 ⟨rfl, hb2⟩
    have HB2 := Hid.mk (below_then HB1.out hb2)
    have A2 := Hid.mk (blk_below A1.out hb2)
    clear hb2 HB1 A1 x0 x1 x2
    cases g1 : inB a 0 (nodes I - 1) with
    | false =>
      have ht : Hid (trv I a b = -1) := trv_no (by simp [g1])
      go_wp2_with (go_at_call 43; refine (inS _ _ _ _).mono ?_; rintro e w' ⟨rfl, rfl⟩)
      go_ret
      exact ⟨ret_i ht.out.symm, HB2.out⟩
    | true =>
      have x0 := blk_cell A2.out 0
      have x1 := blk_cell A2.out 1
      have x2 := blk_cell A2.out 2
      simp only [List.getElem?_toArray, List.getElem?_cons_zero, List.getElem?_cons_succ] at x0 x1 x2
      go_wp2_with (go_at_call 43; refine (inS _ _ _ _).mono ?_; rintro e w' ⟨rfl, rfl⟩)
      refine (nodesS a1 a2 a3 c1 c2 c3 I _ h1 h2).mono ?_
      rintro e w3 ⟨rfl, hb3⟩
      have HB3 := Hid.mk (below_then HB2.out hb3)
      have A3 := Hid.mk (blk_below A2.out hb3)
      clear hb3 HB2 A2 x0 x1 x2
      cases g2 : inB b 0 (nodes I - 1) with
      | false =>
        have ht : Hid (trv I a b = -1) := trv_no (by simp [g2])
        go_wp2_with (go_at_call 43; refine (inS _ _ _ _).mono ?_; rintro e w' ⟨rfl, rfl⟩)
        go_ret
        exact ⟨ret_i ht.out.symm, HB3.out⟩
      | true =>
        have ht : Hid (trv I a b = legV I a b) := trv_yes (by simp [g0, g1, g2])
        have x0 := blk_cell A3.out 0
        have x1 := blk_cell A3.out 1
        have x2 := blk_cell A3.out 2
        simp only [List.getElem?_toArray, List.getElem?_cons_zero, List.getElem?_cons_succ] at x0 x1 x2
        have i1 := Hid.mk (inB_of g1)
        have i2 := Hid.mk (inB_of g2)
        have G0 := Hid.mk g0
        go_wp2_with (go_at_call 43; refine (inS _ _ _ _).mono ?_; rintro e w' ⟨rfl, rfl⟩)
        refine (legS a1 a2 a3 c1 c2 c3 I a b _ (H.out.below HB3.out) G0.out i1.out.1 i1.out.2 i2.out.1 i2.out.2).mono ?_
        rintro e w4 ⟨rfl, hb4⟩
        have HB4 := Hid.mk (below_then HB3.out hb4)
        clear hb4
        go_wp2
        go_ret
        exact ⟨ret_i ht.out.symm, HB4.out⟩

end Go.Proofs.Ytdpmdmgjlpiikaa.Travel
