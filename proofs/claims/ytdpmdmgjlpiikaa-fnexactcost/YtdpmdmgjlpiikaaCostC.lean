import Derived.Test.YtdpmdmgjlpiikaaCostB
import Derived.Test.YtdpmdmgjlpiikaaLegS
import Derived.Test.YtdpmdmgjlpiikaaBetween
import Derived.Test.YtdpmdmgjlpiikaaArith
import Derived.Deep.DrawnRows
import Derived.BigQuiet
namespace Go.Proofs.Ytdpmdmgjlpiikaa.Cost
open Go Go.RowKit Go.Proofs.Ytdpmdmgjlpiikaa.Mem Go.Proofs.Ytdpmdmgjlpiikaa.Route Go.Proofs.Ytdpmdmgjlpiikaa.Travel
open Go.Proofs.Ytdpmdmgjlpiikaa.Valid (inB ret_bool nodes validB)
open Go.Proofs.Ytdpmdmgjlpiikaa.Arith (sadd)
set_option linter.unusedVariables false
set_option linter.unusedSimpArgs false
attribute [local go_sem ↓] Go.wp_at_zero Go.wp_at_succ

set_option maxHeartbeats 4000000 in
set_option maxRecDepth 100000 in
theorem costOfI (a1 a2 a3 a : Option Addr) (c1 c2 c3 n c : Nat) (I : In) (v : Int) (L : Nat → Int) (w : World) (h : InAt w a1 a2 a3 I) (hs : NumsAt w a n L) (hr : routeB I v n L = true) :
    Calls Try.prog 50 #[.agg #[.slice a1 I.nV c1, .slice a2 I.nQ c2, .slice a3 I.nR c3, .int .i64 v], .slice a n c] w fun e w' => e = .returned (.int .i64 (distV I v n L (n + 1))) ∧ Below w.heap.size w w' := by
  obtain ⟨hn, hv, -, -, -⟩ := route_parts hr
  have H := Hid.mk h
  have HS := Hid.mk hs
  have HR := Hid.mk hr
  clear h hs hr
  go_enter Try.func50, Try.ntmps50
  go_wp2_with fail
  go_quiet (fail)
  go_wp2
  go_loopw [13, 5, 6] (fun i cst f wr => ∃ k : Nat, k ≤ n ∧ i = .int .i64 k ∧ cst = .int .i64 (distV I v n L k) ∧ f = .int .i64 (nodeV v n L k) ∧ Hid (Below w.heap.size w wr) ∧ Hid (wr.heap[w.heap.size]? = some (.cells #[.slice a1 I.nV c1, .slice a2 I.nQ c2, .slice a3 I.nR c3, .int .i64 v] 73))) (fun i _ _ _ => n - (intOf i).toNat)
  case atStart => exact ⟨0, Nat.zero_le _, rfl, rfl, rfl, Hid.mk (below_drewN' ((Below.refl _ _).alloc (Nat.le_refl _) _) _), blk_new w _⟩
  case round =>
    obtain ⟨k, hk, rfl, rfl, rfl, hb, hA⟩ := hrel
    have x0 := blk_cell hA.out 0
    have x1 := blk_cell hA.out 1
    have x2 := blk_cell hA.out 2
    have x3 := blk_cell hA.out 3
    simp only [List.getElem?_toArray, List.getElem?_cons_zero, List.getElem?_cons_succ] at x0 x1 x2 x3
    obtain ⟨p0, p1⟩ := nodeV_ok HR.out k
    obtain ⟨q0, q1⟩ := nodeV_ok HR.out (k + 1)
    by_cases hlt : k < n
    · obtain ⟨b, off, rfl, c0⟩ := NumsAt.at (HS.out.below hb.out) hlt
      have k0 : (0 : Int) ≤ (k : Int) := by omega
      have k1 : (k : Int) < (n : Int) := by omega
      have hx : Hid (nodeV v n L (k + 1) = L k) := nodeV_in hlt
      rw [hx.out] at q0 q1
      have hD : Hid (distV I v n L (k + 1) = sadd (distV I v n L k) (legV I (nodeV v n L k) (L k))) := by unfold Hid; rw [← hx.out]; rfl
      go_wp2_with (first | (go_at_call 46; refine (between a1 a2 a3 c1 c2 c3 I _ _ _ (H.out.below hb.out) hv p0 p1 q0 q1).mono ?_; rintro e w2 ⟨rfl, hb2⟩) | (go_at_call 9; refine (Arith.addI _ _ _).mono ?_; rintro e w3 ⟨rfl, rfl⟩))
      exact ⟨⟨k + 1, by omega, by go_num, congrArg (Value.int .i64) hD.out.symm, congrArg (Value.int .i64) hx.out.symm, Hid.mk (below_then hb.out hb2), Hid.mk (blk_below hA.out hb2)⟩, by simp [intOf]; omega⟩
    · obtain rfl : n = k := by omega
      have hx : Hid (nodeV v n L (n + 1) = v) := nodeV_end v n L
      rw [hx.out] at q0 q1
      have hD : Hid (distV I v n L (n + 1) = sadd (distV I v n L n) (legV I (nodeV v n L n) v)) := by unfold Hid; rw [← hx.out, hx.out]; show sadd _ (legV I _ (nodeV v n L (n + 1))) = _; rw [hx.out]
      go_wp2_with (first | (go_at_call 46; refine (between a1 a2 a3 c1 c2 c3 I _ _ _ (H.out.below hb.out) hv p0 p1 q0 q1).mono ?_; rintro e w2 ⟨rfl, hb2⟩) | (go_at_call 9; refine (Arith.addI _ _ _).mono ?_; rintro e w3 ⟨rfl, rfl⟩))
      go_ret
      exact ⟨ret_i hD.out.symm, below_then hb.out hb2⟩

set_option maxHeartbeats 4000000 in
set_option maxRecDepth 100000 in
/-- The program's cost. -/
theorem costI (a1 a2 a3 a : Option Addr) (c1 c2 c3 n c : Nat) (I : In) (v : Int) (L : Nat → Int) (w : World) (h : InAt w a1 a2 a3 I) (hs : NumsAt w a n L) (h1 : I.nV ≤ 1048576) (h2 : I.nQ ≤ 1048576) (h3 : I.nR ≤ 1048576) (hn : n ≤ 1048576) :
    Calls Try.prog 21 #[.agg #[.slice a1 I.nV c1, .slice a2 I.nQ c2, .slice a3 I.nR c3], .int .i64 v, .slice a n c] w fun e w' => e = .returned (.int .i64 (costV I v n L)) ∧ Below w.heap.size w w' := by
  have H := Hid.mk h
  have HS := Hid.mk hs
  clear h hs
  go_enter Try.func21, Try.ntmps21
  go_wp2_with fail
  refine (routeI a1 a2 a3 a c1 c2 c3 n c I v L _ (H.out.below (by go_grown)) (HS.out.below (by go_grown)) h1 h2 h3 hn).mono ?_
  rintro e w1 ⟨rfl, hb1⟩
  have HB1 := Hid.mk (below_then (w := w) (by go_grown) hb1)
  have A1 := Hid.mk (blk_below (blk_new w _) hb1)
  clear hb1
  cases hr : routeB I v n L with
  | false =>
    have ht : Hid (costV I v n L = -1) := by unfold Hid costV; rw [hr]; rfl
    go_wp2
    go_ret
    exact ⟨ret_i ht.out.symm, HB1.out⟩
  | true =>
    have ht : Hid (costV I v n L = distV I v n L (n + 1)) := by unfold Hid costV; rw [hr]; rfl
    have x0 := blk_cell A1.out 0
    have x1 := blk_cell A1.out 1
    have x2 := blk_cell A1.out 2
    simp only [List.getElem?_toArray, List.getElem?_cons_zero, List.getElem?_cons_succ] at x0 x1 x2
    go_wp2_with fail
    refine (costOfI a1 a2 a3 a c1 c2 c3 n c I v L _ (H.out.below HB1.out) (HS.out.below HB1.out) hr).mono ?_
    rintro e w2 ⟨rfl, hb2⟩
    have HB2 := Hid.mk (below_then HB1.out hb2)
    clear hb2 x0 x1 x2
    go_wp2
    go_ret
    exact ⟨ret_i ht.out.symm, HB2.out⟩
end Go.Proofs.Ytdpmdmgjlpiikaa.Cost
