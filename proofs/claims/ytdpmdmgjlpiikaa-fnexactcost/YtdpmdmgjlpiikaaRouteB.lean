import Derived.Test.YtdpmdmgjlpiikaaValidI
import Derived.Test.YtdpmdmgjlpiikaaValidS
import Derived.Test.YtdpmdmgjlpiikaaMemS
import Derived.Deep.DrawnRows
namespace Go.Proofs.Ytdpmdmgjlpiikaa.Route
open Go Go.RowKit Go.Proofs.Ytdpmdmgjlpiikaa.Mem
open Go.Proofs.Ytdpmdmgjlpiikaa.Valid (inB ret_bool nodes validB inI inS nodes_bd nodesI nodesS)
set_option linter.unusedVariables false
set_option linter.unusedSimpArgs false
attribute [local go_sem ↓] Go.wp_at_zero Go.wp_at_succ

/-- A stop node; a vehicle of a valid instance; a route that may be asked for. -/
def stopB (I : In) (x : Int) : Bool := inB x (I.nV : Int) (nodes I - 1)
def tripB (I : In) (v : Int) : Bool := inB v 0 ((I.nV : Int) - 1) && validB I
def stopsB (I : In) (n : Nat) (L : Nat → Int) : Bool := allB n (fun i => stopB I (L i))
def routeB (I : In) (v : Int) (n : Nat) (L : Nat → Int) : Bool := decide (n ≤ 4096) && tripB I v && stopsB I n L
theorem stops_no {I : In} {n k : Nat} {L : Nat → Int} (hk : k < n) (h : stopB I (L k) = false) : stopsB I n L = false := allB_false (f := fun i => stopB I (L i)) hk h

set_option maxHeartbeats 1600000 in
set_option maxRecDepth 100000 in
theorem stopI (a1 a2 a3 : Option Addr) (c1 c2 c3 : Nat) (I : In) (x : Int) (w : World) (h1 : I.nV ≤ 1048576) (h2 : I.nQ ≤ 1048576) :
    Calls Try.prog 69 #[.agg #[.slice a1 I.nV c1, .slice a2 I.nQ c2, .slice a3 I.nR c3], .int .i64 x] w fun e w' => e = .returned (.bool (stopB I x)) ∧ Below w.heap.size w w' := by
  have nb := nodes_bd I h1 h2
  go_enter Try.func69, Try.ntmps69
  go_wp2_with fail
  go_region_held3 (fun w' => w'.cell? ⟨w.heap.size, 0, none⟩ = some (.slice a1 I.nV c1) ∧ w'.cell? ⟨w.heap.size, 1, none⟩ = some (.slice a2 I.nQ c2) ∧ w'.cell? ⟨w.heap.size, 2, none⟩ = some (.slice a3 I.nR c3))
    (first | go_keep | ((repeat' constructor) <;> exact cell_keep hb1 (by first | assumption | (simp [*]; done))))
    ((first | (go_at_call 39; refine (nodesI _ _ _ _ _ _ I _ h1 h2).mono ?_; rintro e w1 ⟨rfl, hb1⟩) | (go_at_call 45; refine (inI _ _ _ _).mono ?_; rintro e w2 ⟨rfl, rfl⟩)))
  go_wp2
  go_ret
  have hw : IntKind.i64.wrap (nodes I - 1) = nodes I - 1 := by rw [IntKind.wrap_i64]; omega
  exact ⟨by show Ending.returned (.bool (inB x (I.nV : Int) (IntKind.i64.wrap (nodes I - 1)))) = _; rw [hw]; rfl, below_then (by go_grown) hb1⟩
set_option maxHeartbeats 1600000 in
set_option maxRecDepth 100000 in
theorem stopS (a1 a2 a3 : Option Addr) (c1 c2 c3 : Nat) (I : In) (x : Int) (w : World) (h1 : I.nV ≤ 1048576) (h2 : I.nQ ≤ 1048576) :
    Calls Try.prog 66 #[.agg #[.slice a1 I.nV c1, .slice a2 I.nQ c2, .slice a3 I.nR c3], .int .i64 x] w fun e w' => e = .returned (.bool (stopB I x)) ∧ Below w.heap.size w w' := by
  have nb := nodes_bd I h1 h2
  go_enter Try.func66, Try.ntmps66
  go_wp2_with fail
  go_region_held3 (fun w' => w'.cell? ⟨w.heap.size, 0, none⟩ = some (.slice a1 I.nV c1) ∧ w'.cell? ⟨w.heap.size, 1, none⟩ = some (.slice a2 I.nQ c2) ∧ w'.cell? ⟨w.heap.size, 2, none⟩ = some (.slice a3 I.nR c3))
    (first | go_keep | ((repeat' constructor) <;> exact cell_keep hb1 (by first | assumption | (simp [*]; done))))
    ((first | (go_at_call 31; refine (nodesS _ _ _ _ _ _ I _ h1 h2).mono ?_; rintro e w1 ⟨rfl, hb1⟩) | (go_at_call 43; refine (inS _ _ _ _).mono ?_; rintro e w2 ⟨rfl, rfl⟩)))
  go_wp2
  go_ret
  have hw : IntKind.i64.wrap (nodes I - 1) = nodes I - 1 := by rw [IntKind.wrap_i64]; omega
  exact ⟨by show Ending.returned (.bool (inB x (I.nV : Int) (IntKind.i64.wrap (nodes I - 1)))) = _; rw [hw]; rfl, below_then (by go_grown) hb1⟩
set_option maxHeartbeats 1600000 in
set_option maxRecDepth 100000 in
theorem tripI (a1 a2 a3 : Option Addr) (c1 c2 c3 : Nat) (I : In) (v : Int) (w : World) (h : InAt w a1 a2 a3 I) (h1 : I.nV ≤ 1048576) (h2 : I.nQ ≤ 1048576) (h3 : I.nR ≤ 1048576) :
    Calls Try.prog 68 #[.agg #[.slice a1 I.nV c1, .slice a2 I.nQ c2, .slice a3 I.nR c3], .int .i64 v] w fun e w' => e = .returned (.bool (tripB I v)) ∧ Below w.heap.size w w' := by
  have H := Hid.mk h
  clear h
  go_enter Try.func68, Try.ntmps68
  go_wp2_with (first | (go_at_call 45; refine (inI _ _ _ _).mono ?_; rintro e w' ⟨rfl, rfl⟩) | (go_at_call 15; refine (Valid.validI a1 a2 a3 c1 c2 c3 I _ (H.out.below (by go_grown)) h1 h2 h3).mono ?_; rintro e w1 ⟨rfl, hb⟩))
  all_goals (go_ret; refine ⟨ret_bool ?_, ?_⟩)
  all_goals first | (go_grown; done) | (simp [tripB, *]; done) | exact below_then (by go_grown) hb

set_option maxHeartbeats 1600000 in
set_option maxRecDepth 100000 in
/-- The program's test of a route. -/
theorem routeI (a1 a2 a3 a : Option Addr) (c1 c2 c3 n c : Nat) (I : In) (v : Int) (L : Nat → Int) (w : World) (h : InAt w a1 a2 a3 I) (hs : NumsAt w a n L) (h1 : I.nV ≤ 1048576) (h2 : I.nQ ≤ 1048576) (h3 : I.nR ≤ 1048576) (hn : n ≤ 1048576) :
    Calls Try.prog 49 #[.agg #[.slice a1 I.nV c1, .slice a2 I.nQ c2, .slice a3 I.nR c3], .int .i64 v, .slice a n c] w fun e w' => e = .returned (.bool (routeB I v n L)) ∧ Below w.heap.size w w' := by
  have H := Hid.mk h
  have HS := Hid.mk hs
  clear h hs
  by_cases hg : 4096 < n
  · have hr : Hid (routeB I v n L = false) := by unfold Hid routeB; rw [decide_eq_false (by omega)]; rfl
    have hd : decide ((4096 : Int) < (n : Int)) = true := by simp; omega
    clear hg
    go_enter Try.func49, Try.ntmps49
    go_wp2
    go_ret
    exact ⟨ret_bool hr.out.symm, by go_grown⟩
  · have hd : decide ((4096 : Int) < (n : Int)) = false := by simp; omega
    have hr : Hid (routeB I v n L = (tripB I v && stopsB I n L)) := by unfold Hid routeB; rw [decide_eq_true (by omega)]; rfl
    have hg' : n ≤ 4096 := by omega
    clear hg
    go_enter Try.func49, Try.ntmps49
    go_wp2_with fail
    refine (tripI a1 a2 a3 c1 c2 c3 I v _ (H.out.below (by go_grown)) h1 h2 h3).mono ?_
    rintro e w1 ⟨rfl, hb1⟩
    have HB1 := Hid.mk (below_then (w := w) (by go_grown) hb1)
    have A1 := Hid.mk (blk_below (blk_new w _) hb1)
    clear hb1
    cases ht : tripB I v with
    | false =>
      have hr' : Hid (routeB I v n L = false) := by unfold Hid; rw [hr.out, ht]; rfl
      go_wp2
      go_ret
      exact ⟨ret_bool hr'.out.symm, HB1.out⟩
    | true =>
      have hr' : Hid (routeB I v n L = stopsB I n L) := by unfold Hid; rw [hr.out, ht]; rfl
      go_wp2
      clear hd
      go_loopw [20] (fun i wr => ∃ k : Nat, k ≤ n ∧ i = .int .i64 k ∧ Hid (Below w.heap.size w wr) ∧ Hid (wr.heap[w.heap.size]? = some (.cells #[.slice a1 I.nV c1, .slice a2 I.nQ c2, .slice a3 I.nR c3] 35)) ∧ Hid (stopsB I k L = true)) (fun i _ => n - (intOf i).toNat)
      case atStart => exact ⟨0, Nat.zero_le _, rfl, HB1, A1, rfl⟩
      case round =>
        obtain ⟨k, hk, rfl, hb, hA, ha⟩ := hrel
        by_cases hlt : k < n
        · obtain ⟨b, off, rfl, c0⟩ := NumsAt.at (HS.out.below hb.out) hlt
          have k0 : (0 : Int) ≤ (k : Int) := by omega
          have k1 : (k : Int) < (n : Int) := by omega
          have x0 := blk_cell hA.out 0
          have x1 := blk_cell hA.out 1
          have x2 := blk_cell hA.out 2
          simp only [List.getElem?_toArray, List.getElem?_cons_zero, List.getElem?_cons_succ] at x0 x1 x2
          cases hg : stopB I (L k) with
          | false =>
            have hv := Hid.mk (hr'.out.trans (stops_no hlt hg))
            go_wp2_with (go_at_call 69; refine (stopI a1 a2 a3 c1 c2 c3 I _ _ h1 h2).mono ?_; rintro e w2 ⟨rfl, hb2⟩)
            go_ret
            exact ⟨ret_bool hv.out.symm, below_then hb.out hb2⟩
          | true =>
            have ha' : Hid (stopsB I (k + 1) L = true) := allB_succ ha.out hg
            go_wp2_with (go_at_call 69; refine (stopI a1 a2 a3 c1 c2 c3 I _ _ h1 h2).mono ?_; rintro e w2 ⟨rfl, hb2⟩)
            exact ⟨⟨k + 1, by omega, by go_num, Hid.mk (below_then hb.out hb2), Hid.mk (blk_below hA.out hb2), ha'⟩, by simp [intOf]; omega⟩
        · obtain rfl : n = k := by omega
          go_wp2
          go_ret
          exact ⟨ret_bool (by rw [hr'.out, ha.out]), hb.out⟩

set_option maxHeartbeats 1600000 in
set_option maxRecDepth 100000 in
/-- The specification's test of a route. -/
theorem routeS (a1 a2 a3 a : Option Addr) (c1 c2 c3 n c : Nat) (I : In) (v : Int) (L : Nat → Int) (w : World) (h : InAt w a1 a2 a3 I) (hs : NumsAt w a n L) (h1 : I.nV ≤ 1048576) (h2 : I.nQ ≤ 1048576) (h3 : I.nR ≤ 1048576) (hn : n ≤ 1048576) :
    Calls Try.prog 47 #[.agg #[.slice a1 I.nV c1, .slice a2 I.nQ c2, .slice a3 I.nR c3], .int .i64 v, .slice a n c] w fun e w' => e = .returned (.bool (routeB I v n L)) ∧ Below w.heap.size w w' := by
  have H := Hid.mk h
  have HS := Hid.mk hs
  clear h hs
  go_enter Try.func47, Try.ntmps47
  go_wp2_with fail
  refine (Valid.validS a1 a2 a3 c1 c2 c3 I _ (H.out.below (by go_grown)) h1 h2 h3).mono ?_
  rintro e w1 ⟨rfl, hb1⟩
  have HB1 := Hid.mk (below_then (w := w) (by go_grown) hb1)
  have A1 := Hid.mk (blk_below (blk_new w _) hb1)
  clear hb1
  cases hv : validB I with
  | false =>
    have hr' : Hid (routeB I v n L = false) := by unfold Hid routeB tripB; rw [hv]; simp
    go_wp2
    go_ret
    exact ⟨ret_bool hr'.out.symm, HB1.out⟩
  | true =>
    have x0 := blk_cell A1.out 0
    simp only [List.getElem?_toArray, List.getElem?_cons_zero, List.getElem?_cons_succ] at x0
    cases hi : inB v 0 ((I.nV : Int) - 1) with
    | false =>
      have hr' : Hid (routeB I v n L = false) := by unfold Hid routeB tripB; rw [hi]; simp
      go_wp2_with (go_at_call 43; refine (inS _ _ _ _).mono ?_; rintro e w2 ⟨rfl, rfl⟩)
      go_ret
      exact ⟨ret_bool hr'.out.symm, HB1.out⟩
    | true =>
      by_cases hg : 4096 < n
      · have hr : Hid (routeB I v n L = false) := by unfold Hid routeB; rw [decide_eq_false (by omega)]; rfl
        have hd : decide ((4096 : Int) < (n : Int)) = true := by simp; omega
        clear hg
        go_wp2_with (go_at_call 43; refine (inS _ _ _ _).mono ?_; rintro e w2 ⟨rfl, rfl⟩)
        go_ret
        exact ⟨ret_bool hr.out.symm, HB1.out⟩
      · have hd : decide ((4096 : Int) < (n : Int)) = false := by simp; omega
        have hr' : Hid (routeB I v n L = stopsB I n L) := by unfold Hid routeB tripB; rw [decide_eq_true (by omega), hv, hi]; rfl
        have hg' : n ≤ 4096 := by omega
        clear hg
        go_wp2_with (go_at_call 43; refine (inS _ _ _ _).mono ?_; rintro e w2 ⟨rfl, rfl⟩)
        clear hd x0
        go_loopw [7] (fun i wr => ∃ k : Nat, k ≤ n ∧ i = .int .i64 k ∧ Hid (Below w.heap.size w wr) ∧ Hid (wr.heap[w.heap.size]? = some (.cells #[.slice a1 I.nV c1, .slice a2 I.nQ c2, .slice a3 I.nR c3] 35)) ∧ Hid (stopsB I k L = true)) (fun i _ => n - (intOf i).toNat)
        case atStart => exact ⟨0, Nat.zero_le _, rfl, HB1, A1, rfl⟩
        case round =>
          obtain ⟨k, hk, rfl, hb, hA, ha⟩ := hrel
          by_cases hlt : k < n
          · obtain ⟨b, off, rfl, c0⟩ := NumsAt.at (HS.out.below hb.out) hlt
            have k0 : (0 : Int) ≤ (k : Int) := by omega
            have k1 : (k : Int) < (n : Int) := by omega
            have x0 := blk_cell hA.out 0
            have x1 := blk_cell hA.out 1
            have x2 := blk_cell hA.out 2
            simp only [List.getElem?_toArray, List.getElem?_cons_zero, List.getElem?_cons_succ] at x0 x1 x2
            go_wp2_with fail
            go_region_held3 (fun w' => w'.cell? ⟨w.heap.size, 0, none⟩ = some (.slice a1 I.nV c1) ∧ w'.cell? ⟨w.heap.size, 1, none⟩ = some (.slice a2 I.nQ c2) ∧ w'.cell? ⟨w.heap.size, 2, none⟩ = some (.slice a3 I.nR c3) ∧ w'.cell? ⟨b, off + k, none⟩ = some (.int .i64 (L k)))
              (first | go_keep | ((repeat' constructor) <;> exact cell_keep hb2 (by first | assumption | (simp [*]; done))))
              ((go_at_call 66; refine (stopS a1 a2 a3 c1 c2 c3 I _ _ h1 h2).mono ?_; rintro e w2 ⟨rfl, hb2⟩))
            have HB2 := Hid.mk (below_then (hb.out.drew) hb2)
            have A2 : Hid (w2.heap[w.heap.size]? = some (.cells #[.slice a1 I.nV c1, .slice a2 I.nQ c2, .slice a3 I.nR c3] 35)) := Hid.mk (blk_below (w := wr.drew) hA.out hb2)
            clear hb2 x0 x1 x2 c0
            cases hg : stopB I (L k) with
            | false =>
              have hv := Hid.mk (hr'.out.trans (stops_no hlt hg))
              go_wp2
              go_ret
              exact ⟨ret_bool hv.out.symm, HB2.out⟩
            | true =>
              have ha' : Hid (stopsB I (k + 1) L = true) := allB_succ ha.out hg
              go_wp2
              exact ⟨⟨k + 1, by omega, by go_num, HB2, A2, ha'⟩, by simp [intOf]; omega⟩
          · obtain rfl : n = k := by omega
            go_wp2
            go_ret
            exact ⟨ret_bool (by rw [hr'.out, ha.out]), hb.out⟩
end Go.Proofs.Ytdpmdmgjlpiikaa.Route
