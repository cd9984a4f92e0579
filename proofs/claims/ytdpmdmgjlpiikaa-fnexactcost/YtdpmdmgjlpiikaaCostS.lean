import Derived.Test.YtdpmdmgjlpiikaaCostB
import Derived.Test.YtdpmdmgjlpiikaaLegS
import Derived.Test.YtdpmdmgjlpiikaaArith
import Derived.Deep.DrawnRows
import Derived.BigQuiet
namespace Go.Proofs.Ytdpmdmgjlpiikaa.Cost
open Go Go.RowKit Go.Proofs.Ytdpmdmgjlpiikaa.Mem Go.Proofs.Ytdpmdmgjlpiikaa.Route Go.Proofs.Ytdpmdmgjlpiikaa.Travel
open Go.Proofs.Ytdpmdmgjlpiikaa.Valid (inB ret_bool nodes validB)
open Go.Proofs.Ytdpmdmgjlpiikaa.Arith (sadd)
set_option linter.unusedVariables false
set_option linter.unusedSimpArgs false
attribute [local go_sem ↓] Go.wp_at_zero Go.wp_at_succ

set_option maxHeartbeats 4000000 in
set_option maxRecDepth 100000 in
theorem legToS (a1 a2 a3 a : Option Addr) (c1 c2 c3 n c : Nat) (I : In) (v m : Int) (L : Nat → Int) (i : Nat) (w : World) (h : InAt w a1 a2 a3 I) (hs : NumsAt w a n L) (hr : routeB I v n L = true) (hm : m = i + 1) (hi : i ≤ n) :
    Calls Try.prog 74 #[.agg #[.slice a1 I.nV c1, .slice a2 I.nQ c2, .slice a3 I.nR c3], .int .i64 v, .slice a n c, .int .i64 m] w fun e w' => e = .returned (.int .i64 (legV I (nodeV v n L i) (nodeV v n L (i + 1)))) ∧ Below w.heap.size w w' := by
  obtain ⟨hn, hv, -, -, -⟩ := route_parts hr
  have hm' : (m == 0) = false := by simp; omega
  have hw : IntKind.i64.wrap (m - 1) = m - 1 := by rw [IntKind.wrap_i64]; omega
  have Hd := Hid.mk (h.below (((Below.refl w.heap.size w).alloc (Nat.le_refl _) (.cells #[.slice a1 I.nV c1, .slice a2 I.nQ c2, .slice a3 I.nR c3] 35)).drew))
  have Sd := Hid.mk (hs.below (((Below.refl w.heap.size w).alloc (Nat.le_refl _) (.cells #[.slice a1 I.nV c1, .slice a2 I.nQ c2, .slice a3 I.nR c3] 35)).drew))
  obtain ⟨p0, p1⟩ := nodeV_ok hr i
  obtain ⟨q0, q1⟩ := nodeV_ok hr (i + 1)
  have HM := Hid.mk hm
  have j1 : Hid (m - 1 = (i : Nat)) := by unfold Hid; omega
  have j2 : Hid (m = ((i + 1 : Nat) : Int)) := by unfold Hid; omega
  clear hm h hs
  go_enter Try.func74, Try.ntmps74
  go_wp2_with fail
  go_region_held3 (fun w' => w'.cell? ⟨w.heap.size, 0, none⟩ = some (.slice a1 I.nV c1) ∧ w'.cell? ⟨w.heap.size, 1, none⟩ = some (.slice a2 I.nQ c2) ∧ w'.cell? ⟨w.heap.size, 2, none⟩ = some (.slice a3 I.nR c3))
    (first | go_keep | ((repeat' constructor) <;> exact cell_keep hb3 (by first | assumption | (simp [*]; done))))
    ((first
      | (go_at_call 76; with_reducible refine (nodeS a n c v (m - 1) L i _ Sd.out (by omega) j1.out (by omega)).mono ?_; rintro e w1 ⟨rfl, rfl⟩)
      | (go_at_call 76; with_reducible refine (nodeS a n c v m L (i + 1) _ Sd.out (by omega) j2.out (by omega)).mono ?_; rintro e w2 ⟨rfl, rfl⟩)
      | (go_at_call 44; with_reducible refine (legS a1 a2 a3 c1 c2 c3 I _ _ _ Hd.out hv p0 p1 q0 q1).mono ?_; rintro e w3 ⟨rfl, hb3⟩)))
  have HB := Hid.mk (below_then (w := w) (by go_grown) hb3)
  clear hb3 Hd Sd
  go_wp2
  go_ret
  exact ⟨rfl, HB.out⟩

set_option maxHeartbeats 4000000 in
set_option maxRecDepth 100000 in
theorem distS (a1 a2 a3 a : Option Addr) (c1 c2 c3 n c : Nat) (I : In) (v : Int) (L : Nat → Int) (hr : routeB I v n L = true) : ∀ (i : Nat) (m : Int) (w : World), InAt w a1 a2 a3 I → NumsAt w a n L → m = i → i ≤ n + 1 →
    Calls Try.prog 67 #[.agg #[.slice a1 I.nV c1, .slice a2 I.nQ c2, .slice a3 I.nR c3], .int .i64 v, .slice a n c, .int .i64 m] w fun e w' => e = .returned (.int .i64 (distV I v n L i)) ∧ Below w.heap.size w w' := by
  intro i
  induction i with
  | zero =>
    intro m w h hs hm hi
    have hm' : (m == 0) = true := by simpa using hm
    clear hm h hs
    go_enter Try.func67, Try.ntmps67
    go_wp2
    go_ret
    exact ⟨rfl, by go_grown⟩
  | succ i ih =>
    intro m w h hs hm hi
    obtain ⟨hn, hv, -, -, -⟩ := route_parts hr
    have hm' : (m == 0) = false := by simp; omega
    have hw : IntKind.i64.wrap (m - 1) = m - 1 := by rw [IntKind.wrap_i64]; omega
    have Hd := Hid.mk (h.below (((Below.refl w.heap.size w).alloc (Nat.le_refl _) (.cells #[.slice a1 I.nV c1, .slice a2 I.nQ c2, .slice a3 I.nR c3] 35)).drew))
    have Sd := Hid.mk (hs.below (((Below.refl w.heap.size w).alloc (Nat.le_refl _) (.cells #[.slice a1 I.nV c1, .slice a2 I.nQ c2, .slice a3 I.nR c3] 35)).drew))
    have IH := Hid.mk ih
    have j1 : Hid (m - 1 = (i : Nat)) := by unfold Hid; omega
    have j2 : Hid (m = (i : Int) + 1) := by unfold Hid; omega
    clear hm h hs ih
    go_enter Try.func67, Try.ntmps67
    go_wp2_with fail
    go_region_held3 (fun w' => w'.cell? ⟨w.heap.size, 0, none⟩ = some (.slice a1 I.nV c1) ∧ w'.cell? ⟨w.heap.size, 1, none⟩ = some (.slice a2 I.nQ c2) ∧ w'.cell? ⟨w.heap.size, 2, none⟩ = some (.slice a3 I.nR c3))
      (first | go_keep | ((repeat' constructor) <;> first | exact cell_keep hb2 (by first | assumption | (simp [*]; done)) | exact cell_keep hb1 (by first | assumption | (simp [*]; done))))
      ((first
        | (go_at_call 67; with_reducible refine (IH.out (m - 1) _ Hd.out Sd.out j1.out (by omega)).mono ?_; rintro e w1 ⟨rfl, hb1⟩)
        | (go_at_call 74; with_reducible refine (legToS a1 a2 a3 a c1 c2 c3 n c I v m L i _ (Hd.out.below hb1) (Sd.out.below hb1) hr j2.out (by omega)).mono ?_; rintro e w2 ⟨rfl, hb2⟩)
        | (go_at_call 8; with_reducible refine (Arith.addS _ _ _).mono ?_; rintro e w3 ⟨rfl, rfl⟩)))
    have HB := Hid.mk (below_then (w := w) (by go_grown) (below_then hb1 hb2))
    clear hb1 hb2 Hd Sd
    go_wp2
    go_ret
    exact ⟨rfl, HB.out⟩

set_option maxHeartbeats 4000000 in
set_option maxRecDepth 100000 in
/-- The specification's cost. -/
theorem costS (a1 a2 a3 a : Option Addr) (c1 c2 c3 n c : Nat) (I : In) (v : Int) (L : Nat → Int) (w : World) (h : InAt w a1 a2 a3 I) (hs : NumsAt w a n L) (h1 : I.nV ≤ 1048576) (h2 : I.nQ ≤ 1048576) (h3 : I.nR ≤ 1048576) (hn : n ≤ 1048576) :
    Calls Try.prog 19 #[.agg #[.slice a1 I.nV c1, .slice a2 I.nQ c2, .slice a3 I.nR c3], .int .i64 v, .slice a n c] w fun e w' => e = .returned (.int .i64 (costV I v n L)) ∧ Below w.heap.size w w' := by
  have H := Hid.mk h
  have HS := Hid.mk hs
  clear h hs
  have L5 : ∀ w, InAt w a1 a2 a3 I → NumsAt w a n L → routeB I v n L = true → Calls Try.prog 48 #[.agg #[.slice a1 I.nV c1, .slice a2 I.nQ c2, .slice a3 I.nR c3], .int .i64 v, .slice a n c] w fun e w' => e = .returned (.int .i64 (distV I v n L (n + 1))) ∧ Below w.heap.size w w' := by
    intro w h hs hr
    have H := Hid.mk h
    have HS := Hid.mk hs
    have HR := Hid.mk hr
    clear h hs hr
    go_enter Try.func48, Try.ntmps48
    go_wp2_with fail
    refine (distS a1 a2 a3 a c1 c2 c3 n c I v L HR.out (n + 1) _ _ (H.out.below (by go_grown)) (HS.out.below (by go_grown)) (by omega) (Nat.le_refl _)).mono ?_
    rintro e w1 ⟨rfl, hb1⟩
    have HB := Hid.mk (below_then (w := w) (by go_grown) hb1)
    clear hb1
    go_wp2
    go_ret
    exact ⟨rfl, HB.out⟩
  go_enter Try.func19, Try.ntmps19
  go_wp2_with fail
  refine (routeS a1 a2 a3 a c1 c2 c3 n c I v L _ (H.out.below (by go_grown)) (HS.out.below (by go_grown)) h1 h2 h3 hn).mono ?_
  rintro e w1 ⟨rfl, hb1⟩
  have HB1 := Hid.mk (below_then (w := w) (by go_grown) hb1)
  have A1 := Hid.mk (blk_below (blk_new w _) hb1)
  clear hb1
  cases hr : routeB I v n L with
  | false =>
    have ht : Hid (costV I v n L = -1) := by unfold Hid costV; rw [hr]; rfl
    go_wp2
    go_ret
    exact ⟨ret_i ht.out.symm, HB1.out⟩
  | true =>
    have ht : Hid (costV I v n L = distV I v n L (n + 1)) := by unfold Hid costV; rw [hr]; rfl
    have x0 := blk_cell A1.out 0
    have x1 := blk_cell A1.out 1
    have x2 := blk_cell A1.out 2
    simp only [List.getElem?_toArray, List.getElem?_cons_zero, List.getElem?_cons_succ] at x0 x1 x2
    go_wp2_with fail
    refine (L5 _ (H.out.below HB1.out) (HS.out.below HB1.out) hr).mono ?_
    rintro e w2 ⟨rfl, hb2⟩
    have HB2 := Hid.mk (below_then HB1.out hb2)
    clear hb2 x0 x1 x2
    go_wp2
    go_ret
    exact ⟨ret_i ht.out.symm, HB2.out⟩
end Go.Proofs.Ytdpmdmgjlpiikaa.Cost
