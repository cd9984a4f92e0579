import Derived.Test.YtdpmdmgjlpiikaaTravelS
import Derived.Deep.DrawnRows
import Derived.Lib.QuietBelow
import Derived.Test.YtdpmdmgjlpiikaaValidI
import Derived.Test.YtdpmdmgjlpiikaaBetween
namespace Go.Proofs.Ytdpmdmgjlpiikaa.Travel
open Go Go.RowKit Go.Sort Go.Proofs.Ytdpmdmgjlpiikaa.Mem Go.Proofs.Ytdpmdmgjlpiikaa.Valid
set_option linter.unusedVariables false
attribute [local go_sem ↓] Go.wp_at_zero Go.wp_at_succ

set_option maxHeartbeats 4000000 in
theorem travelI (a1 a2 a3 : Option Addr) (c1 c2 c3 : Nat) (I : In) (a b : Int) (w : World) (h : InAt w a1 a2 a3 I) (h1 : I.nV ≤ 1048576) (h2 : I.nQ ≤ 1048576) (h3 : I.nR ≤ 1048576) :
    Calls Try.prog 18 #[.agg #[.slice a1 I.nV c1, .slice a2 I.nQ c2, .slice a3 I.nR c3], .int .i64 a, .int .i64 b] w fun e w' => e = .returned (.int .i64 (trv I a b)) ∧ Below w.heap.size w w' := by
  have H := Hid.mk h
  clear h
  have nb := nodes_bd I h1 h2
  go_enter Try.func18, Try.ntmps18
  go_wp2_with fail
  refine (nodesI a1 a2 a3 c1 c2 c3 I _ h1 h2).mono ?_
  rintro e w1 ⟨rfl, hb1⟩
  have HB1 := Hid.mk (below_then (w := w) (by go_grown) hb1)
  have A1 := Hid.mk (blk_below (blk_new w _) hb1)
  clear hb1
  have x0 := blk_cell A1.out 0
  have x1 := blk_cell A1.out 1
  have x2 := blk_cell A1.out 2
  simp only [List.getElem?_toArray, List.getElem?_cons_zero, List.getElem?_cons_succ] at x0 x1 x2
  cases g1 : inB a 0 (nodes I - 1) with
  | false =>
    have ht : Hid (trv I a b = -1) := trv_no (by simp [g1])
    go_wp2_with (go_at_call 45; refine (inI _ _ _ _).mono ?_; rintro e w' ⟨rfl, rfl⟩)
    go_ret
    exact ⟨ret_i ht.out.symm, HB1.out⟩
  | true =>
    cases g2 : inB b 0 (nodes I - 1) with
    | false =>
      have ht : Hid (trv I a b = -1) := trv_no (by simp [g2])
      go_wp2_with (go_at_call 45; refine (inI _ _ _ _).mono ?_; rintro e w' ⟨rfl, rfl⟩)
      go_ret
      exact ⟨ret_i ht.out.symm, HB1.out⟩
    | true =>
      have i1 := Hid.mk (inB_of g1)
      have i2 := Hid.mk (inB_of g2)
      go_wp2_with (go_at_call 45; refine (inI _ _ _ _).mono ?_; rintro e w' ⟨rfl, rfl⟩)
      refine (Valid.validI a1 a2 a3 c1 c2 c3 I _ (H.out.below HB1.out) h1 h2 h3).mono ?_
      rintro e w2 ⟨rfl, hb2⟩
      have HB2 := Hid.mk (below_then HB1.out hb2)
      have A2 := Hid.mk (blk_below A1.out hb2)
      clear hb2 HB1 A1 x0 x1 x2
      cases g0 : validB I with
      | false =>
        have ht : Hid (trv I a b = -1) := trv_no (by simp [g0])
        go_wp2
        go_ret
        exact ⟨ret_i ht.out.symm, HB2.out⟩
      | true =>
        have ht : Hid (trv I a b = legV I a b) := trv_yes (by simp [g0, g1, g2])
        have x0 := blk_cell A2.out 0
        have x1 := blk_cell A2.out 1
        have x2 := blk_cell A2.out 2
        simp only [List.getElem?_toArray, List.getElem?_cons_zero, List.getElem?_cons_succ] at x0 x1 x2
        have G0 := Hid.mk g0
        go_wp2_with fail
        refine (between a1 a2 a3 c1 c2 c3 I a b _ (H.out.below HB2.out) G0.out i1.out.1 i1.out.2 i2.out.1 i2.out.2).mono ?_
        rintro e w3 ⟨rfl, hb3⟩
        have HB3 := Hid.mk (below_then HB2.out hb3)
        clear hb3
        go_wp2
        go_ret
        exact ⟨ret_i ht.out.symm, HB3.out⟩
end Go.Proofs.Ytdpmdmgjlpiikaa.Travel
