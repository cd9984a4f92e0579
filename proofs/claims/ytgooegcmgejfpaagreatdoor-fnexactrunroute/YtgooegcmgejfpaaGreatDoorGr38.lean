import Derived.Test.YtgooegcmgejfpaaGreatDoorGr28
import Derived.Test.YtgooegcmgejfpaaGreatDoorGr36
import Derived.Test.YtgooegcmgejfpaaGreatDoorGr37
import Derived.Test.YtgooegcmgejfpaaGreatDoorGr14
import Derived.Test.YtgooegcmgejfpaaGreatDoorGr15
import Derived.Test.YtgooegcmgejfpaaGreatDoorGr05
import Derived.Deep.DrawnRows
namespace Go.Proofs.YtgooegcmgejfpaaGreatDoor.Mac
open Go Go.RowKit Go.Proofs.YtgooegcmgejfpaaGreatDoor.Mem Go.Proofs.YtgooegcmgejfpaaGreatDoor.Travel
open Go.Proofs.YtgooegcmgejfpaaGreatDoor.Valid (inB nodes nodes_bd validB)
open Go.Proofs.YtgooegcmgejfpaaGreatDoor.StV (stopB okSt)
set_option linter.unusedVariables false
set_option linter.unusedSimpArgs false
attribute [local go_sem ↓] Go.wp_at_zero Go.wp_at_succ

/-- States that hold nothing but a position and a rule. -/
def bareS (p r : Int) : St := ⟨p, r, 0, 0, 0, 0, 0, 0, 0, fun _ => 0, fun _ => 0, fun _ => 0⟩
theorem bare_at (w : World) (p r : Int) : StAt w none none none (bareS p r) := ⟨Or.inl rfl, Or.inl rfl, Or.inl rfl⟩
def stepOut (C : Co) (I : In) (v : Nat) (S : St) (n : Int) : List Int × List Int × Int := exec (enAt I v n) C.B2 C.n2 C.n2 0 (nextL I v S n ++ (lst S.n2 S.L2).drop 13) (lst S.n3 S.L3)
/-- The state one stop further on, where none is broken. -/
def goneS (C : Co) (I : In) (v : Nat) (S : St) (n : Int) : St :=
  ⟨S.p + 1, -1, n, (nextL I v S n).getD 0 0, (nextL I v S n).getD 3 0, (nextL I v S n).getD 4 0, S.n1, S.n2, S.n3, fun i => ((lst S.n1 S.L1).set (qOf I n) (dueOf I n + 1)).getD i 0, fun i => (stepOut C I v S n).1.getD i 0, fun i => (stepOut C I v S n).2.1.getD i 0⟩
/-- What StepState answers. -/
def stepB (C : Co) (I : In) (v : Int) (S : St) (n : Int) : St :=
  if okSt C I v S = false ∨ S.p = -1 then bareS (-1) (-1)
  else if 0 ≤ S.r then bareS S.p S.r
  else if S.p = 4096 ∨ stopB I n = false then bareS (-1) (-1)
  else if S.L1 (qOf I n) ≠ dueOf I n then bareS (S.p + 1) 0
  else if 0 ≤ (stepOut C I v.toNat S n).2.2 then bareS (S.p + 1) (stepOut C I v.toNat S n).2.2
  else goneS C I v.toNat S n
/-- A state as an answer. -/
def StRet (w : World) (S : St) (e : Ending) (w' : World) : Prop :=
  ∃ a1 a2 a3 c1 c2 c3, e = .returned (stV S a1 a2 a3 c1 c2 c3) ∧ StAt w' a1 a2 a3 S ∧ Below w.heap.size w w'
theorem infoSt : (Tryz.prog.info? 34).map (·.size) = some 9 := by kernel_rfl
theorem deadS (w : World) : Calls Tryz.prog 38 #[] w fun e w' => e = .returned (.agg #[.int .i64 (-1), .int .i64 (-1), .int .i64 0, .int .i64 0, .int .i64 0, .int .i64 0, .slice none 0 0, .slice none 0 0, .slice none 0 0]) ∧ Below w.heap.size w w' := by
  go_enter Tryz.func38, Tryz.ntmps38
  go_wp2
  go_returns
  exact ⟨rfl, by go_grown⟩
theorem failedS (p r : Int) (w : World) : Calls Tryz.prog 43 #[.int .i64 p, .int .i64 r] w fun e w' => e = .returned (.agg #[.int .i64 p, .int .i64 r, .int .i64 0, .int .i64 0, .int .i64 0, .int .i64 0, .slice none 0 0, .slice none 0 0, .slice none 0 0]) ∧ Below w.heap.size w w' := by
  go_enter Tryz.func43, Tryz.ntmps43
  go_wp2
  go_returns
  exact ⟨rfl, by go_grown⟩
end Go.Proofs.YtgooegcmgejfpaaGreatDoor.Mac
namespace Go.Proofs.YtgooegcmgejfpaaGreatDoor.Mac
open Go Go.RowKit Go.Proofs.YtgooegcmgejfpaaGreatDoor.Mem Go.Proofs.YtgooegcmgejfpaaGreatDoor.Travel
open Go.Proofs.YtgooegcmgejfpaaGreatDoor.StV (tripB tripI)
open Go.Proofs.YtgooegcmgejfpaaGreatDoor.Valid (validB nodes inB)
set_option linter.unusedVariables false
set_option linter.unusedSimpArgs false
attribute [local go_sem ↓] Go.wp_at_zero Go.wp_at_succ

theorem lst_getD {l : List Int} {n : Nat} (h : l.length = n) : lst n (fun i => l.getD i 0) = l := by
  refine List.ext_getElem (by rw [lst_len, h]) fun i h1 h2 => ?_
  simp [lst, h2]
/-- What StartState answers. -/
def startB (C : Co) (I : In) (v : Int) : St :=
  if ValC.okCo C = true ∧ tripB I v = true then
    if 0 ≤ (startOut C I v.toNat).2.2 then bareS 0 (startOut C I v.toNat).2.2
    else ⟨0, -1, v, (plOf I v).o, 0, 0, I.nQ, C.R.toNat, (C.S * I.nQ).toNat, fun i => (zeros I.nQ).getD i 0, fun i => (startOut C I v.toNat).1.getD i 0, fun i => (startOut C I v.toNat).2.1.getD i 0⟩
  else bareS (-1) (-1)
theorem trip_bd {I : In} {v : Int} (h : tripB I v = true) : 0 ≤ v ∧ v < I.nV ∧ validB I = true := by
  unfold tripB at h
  simp [inB] at h
  exact ⟨h.1.1, by omega, h.2⟩
end Go.Proofs.YtgooegcmgejfpaaGreatDoor.Mac
namespace Go.Proofs.YtgooegcmgejfpaaGreatDoor.Route
open Go Go.RowKit Go.Proofs.YtgooegcmgejfpaaGreatDoor.Mem
open Go.Proofs.YtgooegcmgejfpaaGreatDoor.Valid (inB ret_bool nodes validB inI inS nodes_bd nodesI nodesS)
set_option linter.unusedVariables false
set_option linter.unusedSimpArgs false
attribute [local go_sem ↓] Go.wp_at_zero Go.wp_at_succ

/-- A stop node; a vehicle of a valid instance; a route that may be asked for. -/
def stopB (I : In) (x : Int) : Bool := inB x (I.nV : Int) (nodes I - 1)
def tripB (I : In) (v : Int) : Bool := inB v 0 ((I.nV : Int) - 1) && validB I
def stopsB (I : In) (n : Nat) (L : Nat → Int) : Bool := allB n (fun i => stopB I (L i))
def routeB (I : In) (v : Int) (n : Nat) (L : Nat → Int) : Bool := decide (n ≤ 4096) && tripB I v && stopsB I n L
theorem stops_no {I : In} {n k : Nat} {L : Nat → Int} (hk : k < n) (h : stopB I (L k) = false) : stopsB I n L = false := allB_false (f := fun i => stopB I (L i)) hk h

set_option maxHeartbeats 1600000 in
set_option maxRecDepth 100000 in
theorem stopI (a1 a2 a3 : Option Addr) (c1 c2 c3 : Nat) (I : In) (x : Int) (w : World) (h1 : I.nV ≤ 1048576) (h2 : I.nQ ≤ 1048576) :
    Calls Tryz.prog 73 #[.agg #[.slice a1 I.nV c1, .slice a2 I.nQ c2, .slice a3 I.nR c3], .int .i64 x] w fun e w' => e = .returned (.bool (stopB I x)) ∧ Below w.heap.size w w' := by
  have nb := nodes_bd I h1 h2
  go_enter Tryz.func73, Tryz.ntmps73
  go_wp2_with fail
  go_region_held3 (fun w' => w'.cell? ⟨w.heap.size, 0, none⟩ = some (.slice a1 I.nV c1) ∧ w'.cell? ⟨w.heap.size, 1, none⟩ = some (.slice a2 I.nQ c2) ∧ w'.cell? ⟨w.heap.size, 2, none⟩ = some (.slice a3 I.nR c3))
    (first | go_keep | ((repeat' constructor) <;> exact cell_keep hb1 (by first | assumption | (simp [*]; done))))
    ((first | (go_at_call 120; refine (nodesI _ _ _ _ _ _ I _ h1 h2).mono ?_; rintro e w1 ⟨rfl, hb1⟩) | (go_at_call 102; refine (inI _ _ _ _).mono ?_; rintro e w2 ⟨rfl, rfl⟩)))
  go_wp2
  go_ret
  have hw : IntKind.i64.wrap (nodes I - 1) = nodes I - 1 := by rw [IntKind.wrap_i64]; omega
  exact ⟨by show Ending.returned (.bool (inB x (I.nV : Int) (IntKind.i64.wrap (nodes I - 1)))) = _; rw [hw]; rfl, below_then (by go_grown) hb1⟩
set_option maxHeartbeats 1600000 in
set_option maxRecDepth 100000 in
theorem stopS (a1 a2 a3 : Option Addr) (c1 c2 c3 : Nat) (I : In) (x : Int) (w : World) (h1 : I.nV ≤ 1048576) (h2 : I.nQ ≤ 1048576) :
    Calls Tryz.prog 65 #[.agg #[.slice a1 I.nV c1, .slice a2 I.nQ c2, .slice a3 I.nR c3], .int .i64 x] w fun e w' => e = .returned (.bool (stopB I x)) ∧ Below w.heap.size w w' := by
  have nb := nodes_bd I h1 h2
  go_enter Tryz.func65, Tryz.ntmps65
  go_wp2_with fail
  go_region_held3 (fun w' => w'.cell? ⟨w.heap.size, 0, none⟩ = some (.slice a1 I.nV c1) ∧ w'.cell? ⟨w.heap.size, 1, none⟩ = some (.slice a2 I.nQ c2) ∧ w'.cell? ⟨w.heap.size, 2, none⟩ = some (.slice a3 I.nR c3))
    (first | go_keep | ((repeat' constructor) <;> exact cell_keep hb1 (by first | assumption | (simp [*]; done))))
    ((first | (go_at_call 85; refine (nodesS _ _ _ _ _ _ I _ h1 h2).mono ?_; rintro e w1 ⟨rfl, hb1⟩) | (go_at_call 37; refine (inS _ _ _ _).mono ?_; rintro e w2 ⟨rfl, rfl⟩)))
  go_wp2
  go_ret
  have hw : IntKind.i64.wrap (nodes I - 1) = nodes I - 1 := by rw [IntKind.wrap_i64]; omega
  exact ⟨by show Ending.returned (.bool (inB x (I.nV : Int) (IntKind.i64.wrap (nodes I - 1)))) = _; rw [hw]; rfl, below_then (by go_grown) hb1⟩
set_option maxHeartbeats 1600000 in
set_option maxRecDepth 100000 in
theorem tripI (a1 a2 a3 : Option Addr) (c1 c2 c3 : Nat) (I : In) (v : Int) (w : World) (h : InAt w a1 a2 a3 I) (h1 : I.nV ≤ 1048576) (h2 : I.nQ ≤ 1048576) (h3 : I.nR ≤ 1048576) :
    Calls Tryz.prog 49 #[.agg #[.slice a1 I.nV c1, .slice a2 I.nQ c2, .slice a3 I.nR c3], .int .i64 v] w fun e w' => e = .returned (.bool (tripB I v)) ∧ Below w.heap.size w w' := by
  have H := Hid.mk h
  clear h
  go_enter Tryz.func49, Tryz.ntmps49
  go_wp2_with (first | (go_at_call 102; refine (inI _ _ _ _).mono ?_; rintro e w' ⟨rfl, rfl⟩) | (go_at_call 104; refine (Valid.validI a1 a2 a3 c1 c2 c3 I _ (H.out.below (by go_grown)) h1 h2 h3).mono ?_; rintro e w1 ⟨rfl, hb⟩))
  all_goals (go_ret; refine ⟨ret_bool ?_, ?_⟩)
  all_goals first | (go_grown; done) | (simp [tripB, *]; done) | exact below_then (by go_grown) hb

set_option maxHeartbeats 1600000 in
set_option maxRecDepth 100000 in
/-- The program's test of a route. -/
theorem routeI (a1 a2 a3 a : Option Addr) (c1 c2 c3 n c : Nat) (I : In) (v : Int) (L : Nat → Int) (w : World) (h : InAt w a1 a2 a3 I) (hs : NumsAt w a n L) (h1 : I.nV ≤ 1048576) (h2 : I.nQ ≤ 1048576) (h3 : I.nR ≤ 1048576) (hn : n ≤ 1048576) :
    Calls Tryz.prog 79 #[.agg #[.slice a1 I.nV c1, .slice a2 I.nQ c2, .slice a3 I.nR c3], .int .i64 v, .slice a n c] w fun e w' => e = .returned (.bool (routeB I v n L)) ∧ Below w.heap.size w w' := by
  have H := Hid.mk h
  have HS := Hid.mk hs
  clear h hs
  by_cases hg : 4096 < n
  · have hr : Hid (routeB I v n L = false) := by unfold Hid routeB; rw [decide_eq_false (by omega)]; rfl
    have hd : decide ((4096 : Int) < (n : Int)) = true := by simp; omega
    clear hg
    go_enter Tryz.func79, Tryz.ntmps79
    go_wp2
    go_ret
    exact ⟨ret_bool hr.out.symm, by go_grown⟩
  · have hd : decide ((4096 : Int) < (n : Int)) = false := by simp; omega
    have hr : Hid (routeB I v n L = (tripB I v && stopsB I n L)) := by unfold Hid routeB; rw [decide_eq_true (by omega)]; rfl
    have hg' : n ≤ 4096 := by omega
    clear hg
    go_enter Tryz.func79, Tryz.ntmps79
    go_wp2_with fail
    refine (tripI a1 a2 a3 c1 c2 c3 I v _ (H.out.below (by go_grown)) h1 h2 h3).mono ?_
    rintro e w1 ⟨rfl, hb1⟩
    have HB1 := Hid.mk (below_then (w := w) (by go_grown) hb1)
    have A1 := Hid.mk (blk_below (blk_new w _) hb1)
    clear hb1
    cases ht : tripB I v with
    | false =>
      have hr' : Hid (routeB I v n L = false) := by unfold Hid; rw [hr.out, ht]; rfl
      go_wp2
      go_ret
      exact ⟨ret_bool hr'.out.symm, HB1.out⟩
    | true =>
      have hr' : Hid (routeB I v n L = stopsB I n L) := by unfold Hid; rw [hr.out, ht]; rfl
      go_wp2
      clear hd
      go_loopw [20] (fun i wr => ∃ k : Nat, k ≤ n ∧ i = .int .i64 k ∧ Hid (Below w.heap.size w wr) ∧ Hid (wr.heap[w.heap.size]? = some (.cells #[.slice a1 I.nV c1, .slice a2 I.nQ c2, .slice a3 I.nR c3] 44)) ∧ Hid (stopsB I k L = true)) (fun i _ => n - (intOf i).toNat)
      case atStart => exact ⟨0, Nat.zero_le _, rfl, HB1, A1, rfl⟩
      case round =>
        obtain ⟨k, hk, rfl, hb, hA, ha⟩ := hrel
        by_cases hlt : k < n
        · obtain ⟨b, off, rfl, c0⟩ := NumsAt.at (HS.out.below hb.out) hlt
          have k0 : (0 : Int) ≤ (k : Int) := by omega
          have k1 : (k : Int) < (n : Int) := by omega
          have x0 := blk_cell hA.out 0
          have x1 := blk_cell hA.out 1
          have x2 := blk_cell hA.out 2
          simp only [List.getElem?_toArray, List.getElem?_cons_zero, List.getElem?_cons_succ] at x0 x1 x2
          cases hg : stopB I (L k) with
          | false =>
            have hv := Hid.mk (hr'.out.trans (stops_no hlt hg))
            go_wp2_with (go_at_call 73; refine (stopI a1 a2 a3 c1 c2 c3 I _ _ h1 h2).mono ?_; rintro e w2 ⟨rfl, hb2⟩)
            go_ret
            exact ⟨ret_bool hv.out.symm, below_then hb.out hb2⟩
          | true =>
            have ha' : Hid (stopsB I (k + 1) L = true) := allB_succ ha.out hg
            go_wp2_with (go_at_call 73; refine (stopI a1 a2 a3 c1 c2 c3 I _ _ h1 h2).mono ?_; rintro e w2 ⟨rfl, hb2⟩)
            exact ⟨⟨k + 1, by omega, by go_num, Hid.mk (below_then hb.out hb2), Hid.mk (blk_below hA.out hb2), ha'⟩, by simp [intOf]; omega⟩
        · obtain rfl : n = k := by omega
          go_wp2
          go_ret
          exact ⟨ret_bool (by rw [hr'.out, ha.out]), hb.out⟩

set_option maxHeartbeats 1600000 in
set_option maxRecDepth 100000 in
/-- The specification's test of a route. -/
theorem routeS (a1 a2 a3 a : Option Addr) (c1 c2 c3 n c : Nat) (I : In) (v : Int) (L : Nat → Int) (w : World) (h : InAt w a1 a2 a3 I) (hs : NumsAt w a n L) (h1 : I.nV ≤ 1048576) (h2 : I.nQ ≤ 1048576) (h3 : I.nR ≤ 1048576) (hn : n ≤ 1048576) :
    Calls Tryz.prog 77 #[.agg #[.slice a1 I.nV c1, .slice a2 I.nQ c2, .slice a3 I.nR c3], .int .i64 v, .slice a n c] w fun e w' => e = .returned (.bool (routeB I v n L)) ∧ Below w.heap.size w w' := by
  have H := Hid.mk h
  have HS := Hid.mk hs
  clear h hs
  go_enter Tryz.func77, Tryz.ntmps77
  go_wp2_with fail
  refine (Valid.validS a1 a2 a3 c1 c2 c3 I _ (H.out.below (by go_grown)) h1 h2 h3).mono ?_
  rintro e w1 ⟨rfl, hb1⟩
  have HB1 := Hid.mk (below_then (w := w) (by go_grown) hb1)
  have A1 := Hid.mk (blk_below (blk_new w _) hb1)
  clear hb1
  cases hv : validB I with
  | false =>
    have hr' : Hid (routeB I v n L = false) := by unfold Hid routeB tripB; rw [hv]; simp
    go_wp2
    go_ret
    exact ⟨ret_bool hr'.out.symm, HB1.out⟩
  | true =>
    have x0 := blk_cell A1.out 0
    simp only [List.getElem?_toArray, List.getElem?_cons_zero, List.getElem?_cons_succ] at x0
    cases hi : inB v 0 ((I.nV : Int) - 1) with
    | false =>
      have hr' : Hid (routeB I v n L = false) := by unfold Hid routeB tripB; rw [hi]; simp
      go_wp2_with (go_at_call 37; refine (inS _ _ _ _).mono ?_; rintro e w2 ⟨rfl, rfl⟩)
      go_ret
      exact ⟨ret_bool hr'.out.symm, HB1.out⟩
    | true =>
      by_cases hg : 4096 < n
      · have hr : Hid (routeB I v n L = false) := by unfold Hid routeB; rw [decide_eq_false (by omega)]; rfl
        have hd : decide ((4096 : Int) < (n : Int)) = true := by simp; omega
        clear hg
        go_wp2_with (go_at_call 37; refine (inS _ _ _ _).mono ?_; rintro e w2 ⟨rfl, rfl⟩)
        go_ret
        exact ⟨ret_bool hr.out.symm, HB1.out⟩
      · have hd : decide ((4096 : Int) < (n : Int)) = false := by simp; omega
        have hr' : Hid (routeB I v n L = stopsB I n L) := by unfold Hid routeB tripB; rw [decide_eq_true (by omega), hv, hi]; rfl
        have hg' : n ≤ 4096 := by omega
        clear hg
        go_wp2_with (go_at_call 37; refine (inS _ _ _ _).mono ?_; rintro e w2 ⟨rfl, rfl⟩)
        clear hd x0
        go_loopw [7] (fun i wr => ∃ k : Nat, k ≤ n ∧ i = .int .i64 k ∧ Hid (Below w.heap.size w wr) ∧ Hid (wr.heap[w.heap.size]? = some (.cells #[.slice a1 I.nV c1, .slice a2 I.nQ c2, .slice a3 I.nR c3] 44)) ∧ Hid (stopsB I k L = true)) (fun i _ => n - (intOf i).toNat)
        case atStart => exact ⟨0, Nat.zero_le _, rfl, HB1, A1, rfl⟩
        case round =>
          obtain ⟨k, hk, rfl, hb, hA, ha⟩ := hrel
          by_cases hlt : k < n
          · obtain ⟨b, off, rfl, c0⟩ := NumsAt.at (HS.out.below hb.out) hlt
            have k0 : (0 : Int) ≤ (k : Int) := by omega
            have k1 : (k : Int) < (n : Int) := by omega
            have x0 := blk_cell hA.out 0
            have x1 := blk_cell hA.out 1
            have x2 := blk_cell hA.out 2
            simp only [List.getElem?_toArray, List.getElem?_cons_zero, List.getElem?_cons_succ] at x0 x1 x2
            go_wp2_with fail
            go_region_held3 (fun w' => w'.cell? ⟨w.heap.size, 0, none⟩ = some (.slice a1 I.nV c1) ∧ w'.cell? ⟨w.heap.size, 1, none⟩ = some (.slice a2 I.nQ c2) ∧ w'.cell? ⟨w.heap.size, 2, none⟩ = some (.slice a3 I.nR c3) ∧ w'.cell? ⟨b, off + k, none⟩ = some (.int .i64 (L k)))
              (first | go_keep | ((repeat' constructor) <;> exact cell_keep hb2 (by first | assumption | (simp [*]; done))))
              ((go_at_call 65; refine (stopS a1 a2 a3 c1 c2 c3 I _ _ h1 h2).mono ?_; rintro e w2 ⟨rfl, hb2⟩))
            have HB2 := Hid.mk (below_then (hb.out.drew) hb2)
            have A2 : Hid (w2.heap[w.heap.size]? = some (.cells #[.slice a1 I.nV c1, .slice a2 I.nQ c2, .slice a3 I.nR c3] 44)) := Hid.mk (blk_below (w := wr.drew) hA.out hb2)
            clear hb2 x0 x1 x2 c0
            cases hg : stopB I (L k) with
            | false =>
              have hv := Hid.mk (hr'.out.trans (stops_no hlt hg))
              go_wp2
              go_ret
              exact ⟨ret_bool hv.out.symm, HB2.out⟩
            | true =>
              have ha' : Hid (stopsB I (k + 1) L = true) := allB_succ ha.out hg
              go_wp2
              exact ⟨⟨k + 1, by omega, by go_num, HB2, A2, ha'⟩, by simp [intOf]; omega⟩
          · obtain rfl : n = k := by omega
            go_wp2
            go_ret
            exact ⟨ret_bool (by rw [hr'.out, ha.out]), hb.out⟩
end Go.Proofs.YtgooegcmgejfpaaGreatDoor.Route
namespace Go.Proofs.YtgooegcmgejfpaaGreatDoor.Mac
open Go Go.RowKit Go.Proofs.YtgooegcmgejfpaaGreatDoor.Mem Go.Proofs.YtgooegcmgejfpaaGreatDoor.Travel
open Go.Proofs.YtgooegcmgejfpaaGreatDoor.Valid (inB nodes nodes_bd validB)
open Go.Proofs.YtgooegcmgejfpaaGreatDoor.StV (stopB okSt tripB runB failB deadB bareB standB listB allIn)
open Go.Proofs.YtgooegcmgejfpaaGreatDoor.Arith (cl cl_bd sadd)
set_option linter.unusedVariables false
set_option linter.unusedSimpArgs false

theorem exec_bds {E : En} {B : Nat → Is} {n : Nat} {R S : Int} (hok : ∀ i, i < n → OkI R S i n (B i)) (hR : R ≤ 1000) (hS : S ≤ 100) (f : Nat) : ∀ (k : Nat) (r s : List Int), Bd r → Bd s → Bd (exec E B n f k r s).1 ∧ Bd (exec E B n f k r s).2.1 ∧ ((exec E B n f k r s).2.2 = -1 ∨ (1 ≤ (exec E B n f k r s).2.2 ∧ (exec E B n f k r s).2.2 ≤ 100)) := by
  induction f with
  | zero => intro k r s hr hs; exact ⟨hr, hs, Or.inl rfl⟩
  | succ f ih =>
    intro k r s hr hs
    rw [exec]
    by_cases hk : n ≤ k
    · rw [if_pos hk]; exact ⟨hr, hs, Or.inl rfl⟩
    rw [if_neg hk]
    have h := hok k (by omega)
    by_cases h17 : (B k).p = 17
    · rw [if_pos h17]; exact ih _ _ _ hr hs
    rw [if_neg h17]
    by_cases h15 : (B k).p = 15
    · rw [if_pos h15]; split <;> exact ih _ _ _ hr hs
    rw [if_neg h15]
    by_cases h16 : (B k).p = 16
    · rw [if_pos h16]; split <;> exact ih _ _ _ hr hs
    rw [if_neg h16]
    by_cases h18 : (B k).p = 18
    · rw [if_pos h18]
      split
      · exact ⟨hr, hs, Or.inr (h.rul h18)⟩
      · exact ih _ _ _ hr hs
    rw [if_neg h18]
    by_cases h19 : (B k).p = 19
    · rw [if_pos h19]
      refine ih _ _ _ hr ?_
      split
      · exact hs
      · exact hs.set (hr _).1 (hr _).2
    rw [if_neg h19]
    have hbb : -1000000000 ≤ (B k).b ∧ (B k).b ≤ 1000000000 := by
      have g0 := h.p0
      have g1 := h.p1
      have h1 := h.num
      have h2 := h.reg
      have h3 := h.tag
      have h4 := h.lod
      omega
    have hv := val_bd (E := E) (x := B k) hbb.1 hbb.2 hr hs
    exact ih _ _ _ (hr.set hv.1 hv.2) hs
theorem allB_of {n : Nat} {f : Nat → Bool} (h : ∀ i, i < n → f i = true) : allB n f = true := by
  induction n with
  | zero => rfl
  | succ n ih => exact allB_succ (ih fun i hi => h i (by omega)) (h n (by omega))
theorem inb {x lo hi : Int} (h0 : lo ≤ x) (h1 : x ≤ hi) : inB x lo hi = true := by simp [inB]; omega
theorem all_in {n : Nat} {L : Nat → Int} {lo hi : Int} (h : ∀ i, i < n → lo ≤ L i ∧ L i ≤ hi) : allIn n L lo hi = true := allB_of fun i hi => inb (h i hi).1 (h i hi).2
theorem in_all {n : Nat} {L : Nat → Int} {lo hi : Int} (h : allIn n L lo hi = true) (i : Nat) (hi' : i < n) : lo ≤ L i ∧ L i ≤ hi := by
  have := allB_get (f := fun i => inB (L i) lo hi) h i hi'
  simpa [inB] using this
theorem bd_all {l : List Int} (h : Bd l) (n : Nat) : allIn n (fun i => l.getD i 0) (-1000000000) 1000000000 = true := all_in fun i _ => h i
theorem sadd_lo {a b : Int} (h : 0 ≤ a) (h' : 0 ≤ b) : 0 ≤ sadd a b := by unfold sadd cl; split <;> (try split) <;> omega
/-- The bounds of a running state that RunOk leaves out. -/
theorem run_more {C : Co} {I : In} {v : Int} {S : St} (h : okSt C I v S = true) (hp : S.p ≠ -1) (hr : ¬ 0 ≤ S.r) : ValC.okCo C = true ∧ tripB I v = true ∧ 0 ≤ S.s := by
  unfold okSt at h
  simp only [Bool.and_eq_true, Bool.or_eq_true] at h
  obtain ⟨⟨hc, ht⟩, (h | h) | h⟩ := h
  · simp [deadB] at h; omega
  · simp [failB, inB] at h; omega
  · unfold runB at h
    simp only [Bool.and_eq_true] at h
    obtain ⟨⟨⟨⟨⟨⟨⟨⟨h1, h2⟩, h3⟩, h4⟩, h5⟩, h6⟩, h7⟩, h8⟩, h9⟩ := h
    simp [inB] at h5
    exact ⟨hc, ht, h5.1⟩
theorem okSt_parts {C : Co} {I : In} {v : Int} {S : St} (h : okSt C I v S = true) : ValC.okCo C = true ∧ tripB I v = true := by
  unfold okSt at h
  simp only [Bool.and_eq_true] at h
  exact h.1
theorem okSt_bare {C : Co} {I : In} {v p r : Int} (hc : ValC.okCo C = true) (ht : tripB I v = true) (p0 : 0 ≤ p) (p1 : p ≤ 4097) (r0 : 0 ≤ r) (r1 : r ≤ 100) : okSt C I v (bareS p r) = true := by
  have : failB (bareS p r) = true := by
    unfold failB
    rw [show inB (bareS p r).p 0 4097 = true from inb p0 p1, show inB (bareS p r).r 0 100 = true from inb r0 r1]
    rfl
  unfold okSt
  rw [hc, ht, this]
  simp
theorem okSt_run {C : Co} {I : In} {v : Int} {S : St} (hc : ValC.okCo C = true) (ht : tripB I v = true) (h : runB C I v S = true) : okSt C I v S = true := by
  unfold okSt
  rw [hc, ht, h]
  simp
theorem out_bds {C : Co} {I : In} {u : Nat} {S : St} {n : Int} (R : RunOk C I u S) (hst : stopB I n = true) : Bd (stepOut C I u S n).1 ∧ Bd (stepOut C I u S n).2.1 ∧ ((stepOut C I u S n).2.2 = -1 ∨ (1 ≤ (stepOut C I u S n).2.2 ∧ (stepOut C I u S n).2.2 ≤ 100)) := by
  obtain ⟨k0, k1, k2, k3⟩ := StV.co_bd R.co
  have hb2 : ValC.okBlk C.R C.S C.n2 C.B2 = true := by
    have := R.co
    unfold ValC.okCo at this
    simp only [Bool.and_eq_true] at this
    exact this.1.2
  obtain ⟨g1, g2, g3, g4⟩ := stop_bd hst
  unfold stepOut
  exact exec_bds (blk_ok hb2).2 k1 k3 _ _ _ _ (bd_over (next_bd R.val R.hv R.d0 R.d1 (by omega) g2 R.p0 (by have := R.p1; omega)) (lst_bd R.a2)) (lst_bd R.a3)
theorem due_bd (I : In) (n : Int) : 0 ≤ dueOf I n ∧ dueOf I n ≤ 1 := bit_bd _
theorem okSt_gone {C : Co} {I : In} {u : Nat} {S : St} {n : Int} (hok : okSt C I (u : Int) S = true) (hp : S.p ≠ -1) (hr : ¬ 0 ≤ S.r) (hst : stopB I n = true) (h4 : S.p < 4096) : okSt C I (u : Int) (goneS C I u S n) = true := by
  obtain ⟨-, R⟩ := run_ok hok hp hr
  rw [Int.toNat_natCast] at R
  obtain ⟨hc, ht, hs⟩ := run_more hok hp hr
  obtain ⟨g1, g2, g3, g4⟩ := stop_bd hst
  have hpl := plOf_ok' R.val (n := n) (by omega) g2
  have a1 := hpl.o0
  have a2 := hpl.oc
  have a3 := hpl.c1
  have hleg := leg_bd R.val R.d0 R.d1 (show 0 ≤ n by omega) g2
  have s1 := sadd_bd (sadd S.t (plOf I S.d).h) (legV I S.d n)
  have s3 := sadd_bd S.s (legV I S.d n)
  have s4 := sadd_bd S.l ((pickOf I n - dropOf I n) * sizeOf I n)
  have s5 := sadd_lo hs hleg.1
  obtain ⟨b1, b2, -⟩ := out_bds R hst
  have hdu := due_bd I n
  have p0 := R.p0
  refine okSt_run hc ht ?_
  have e1 : inB (S.p + 1) 0 4096 = true := inb (by omega) (by omega)
  have e2 : standB I (u : Int) (goneS C I u S n) = true := by unfold standB; rw [if_neg (by show ¬ S.p + 1 = 0; omega)]; exact hst
  have e3 : inB ((nextL I u S n).getD 0 0) 0 1000000000 = true := inb (by show 0 ≤ max (plOf I n).o _; omega) (by show max (plOf I n).o (sadd (sadd S.t (plOf I S.d).h) (legV I S.d n)) ≤ _; omega)
  have e4 : inB ((nextL I u S n).getD 3 0) 0 1000000000 = true := inb s5 s3.2
  have e5 : inB ((nextL I u S n).getD 4 0) (-1000000000) 1000000000 = true := inb s4.1 s4.2
  have e6 : listB S.n1 (fun i => ((lst S.n1 S.L1).set (qOf I n) (dueOf I n + 1)).getD i 0) (I.nQ : Int) 0 2 = true := by
    unfold listB
    rw [all_in (fun i hi => ?_)]
    · have := R.l1; simp [this]
    · by_cases e : qOf I n = i
      · subst e
        rw [List.getD_eq_getElem?_getD, List.getElem?_set_self (by rw [lst_len]; exact hi)]
        simp; omega
      · rw [List.getD_eq_getElem?_getD, List.getElem?_set_ne e, ← List.getD_eq_getElem?_getD, lst_get hi]
        exact in_all R.a1 i hi
  have e7 : listB S.n2 (fun i => (stepOut C I u S n).1.getD i 0) C.R (-1000000000) 1000000000 = true := by
    unfold listB; rw [bd_all b1]; have := R.l2; simp [this]
  have e8 : listB S.n3 (fun i => (stepOut C I u S n).2.1.getD i 0) (C.S * (I.nQ : Int)) (-1000000000) 1000000000 = true := by
    unfold listB; rw [bd_all b2]; have := R.l3; simp [this]
  unfold runB
  rw [e2]
  simp only [goneS, e1, e3, e4, e5, e6, e7, e8, Bool.and_true, beq_self_eq_true]
/-- A state that is not dead stays so at a stop. -/
theorem okSt_step {C : Co} {I : In} {u : Nat} {S : St} {n : Int} (hok : okSt C I (u : Int) S = true) (hp : S.p ≠ -1) (hst : stopB I n = true) (h4 : ¬ 0 ≤ S.r → S.p < 4096) :
    okSt C I (u : Int) (stepB C I (u : Int) S n) = true ∧ (stepB C I (u : Int) S n).p ≠ -1 ∧ (¬ 0 ≤ (stepB C I (u : Int) S n).r → ¬ 0 ≤ S.r ∧ (stepB C I (u : Int) S n).p = S.p + 1) := by
  obtain ⟨hc, ht⟩ := okSt_parts hok
  unfold stepB
  rw [if_neg (by rw [hok]; simp [hp])]
  by_cases hr : 0 ≤ S.r
  · rw [if_pos hr]
    have hb : failB S = true := by
      unfold okSt at hok
      simp only [Bool.and_eq_true, Bool.or_eq_true] at hok
      obtain ⟨-, (h | h) | h⟩ := hok
      · simp [deadB] at h; omega
      · exact h
      · unfold runB at h
        simp only [Bool.and_eq_true] at h
        have := h.1.1.1.1.1.1.1.1
        simp at this
        omega
    have : 0 ≤ S.p ∧ S.p ≤ 4097 ∧ 0 ≤ S.r ∧ S.r ≤ 100 := by simp [failB, inB] at hb; omega
    exact ⟨okSt_bare hc ht this.1 this.2.1 this.2.2.1 this.2.2.2, hp, fun h => absurd hr h⟩
  rw [if_neg hr]
  have hlt := h4 hr
  obtain ⟨-, R⟩ := run_ok hok hp hr
  rw [Int.toNat_natCast] at R ⊢
  have p0 := R.p0
  rw [if_neg (by rw [hst]; simp; omega)]
  by_cases hd : S.L1 (qOf I n) ≠ dueOf I n
  · rw [if_pos hd]
    exact ⟨okSt_bare hc ht (by omega) (by omega) (by omega) (by omega), by show S.p + 1 ≠ -1; omega, fun h => absurd (by show (0 : Int) ≤ 0; omega) h⟩
  rw [if_neg hd]
  obtain ⟨-, -, hu⟩ := out_bds R hst
  by_cases hx : 0 ≤ (stepOut C I u S n).2.2
  · rw [if_pos hx]
    exact ⟨okSt_bare hc ht (by omega) (by omega) hx (by omega), by show S.p + 1 ≠ -1; omega, fun h => absurd hx h⟩
  · rw [if_neg hx]
    exact ⟨okSt_gone hok hp hr hst hlt, by show S.p + 1 ≠ -1; omega, fun _ => ⟨hr, rfl⟩⟩
theorem start_bds {C : Co} {I : In} {u : Nat} (hc : ValC.okCo C = true) (hval : validB I = true) (hu : u < I.nV) : Bd (startOut C I u).1 ∧ Bd (startOut C I u).2.1 ∧ ((startOut C I u).2.2 = -1 ∨ (1 ≤ (startOut C I u).2.2 ∧ (startOut C I u).2.2 ≤ 100)) := by
  obtain ⟨k0, k1, k2, k3⟩ := StV.co_bd hc
  have hb1 : ValC.okBlk C.R C.S C.n1 C.B1 = true := by
    have := hc
    unfold ValC.okCo at this
    simp only [Bool.and_eq_true] at this
    exact this.1.1.2
  have hpl := plOf_ok' hval (n := (u : Int)) (by omega) (by unfold nodes; omega)
  have hve := veh_bd hval hu
  have hbd : Bd (startL I u) := by
    have a1 := hpl.o0; have a2 := hpl.oc; have a3 := hpl.c1; have a4 := hpl.h0; have a5 := hpl.h1; have a6 := hve.1; have a7 := hve.2.1
    intro i
    unfold startL
    rcases i with _ | _ | _ | _ | _ | _ | _ | _ | _ | _ | _ | _ | _ | i <;> simp only [List.getD_cons_zero, List.getD_cons_succ, List.getD_nil, Nat.zero_add] <;> omega
  have hbz : ∀ n, Bd (zeros n) := fun n i => by rw [zeros_get]; omega
  unfold startOut
  exact exec_bds (blk_ok hb1).2 k1 k3 _ _ _ _ (bd_over hbd (hbz _)) (hbz _)
theorem okSt_start {C : Co} {I : In} {v : Int} (hc : ValC.okCo C = true) (ht : tripB I v = true) : okSt C I v (startB C I v) = true ∧ (startB C I v).p ≠ -1 ∧ (¬ 0 ≤ (startB C I v).r → (startB C I v).p = 0) := by
  obtain ⟨v0, v1, hval⟩ := trip_bd ht
  obtain ⟨u, rfl⟩ : ∃ u : Nat, v = (u : Int) := ⟨v.toNat, by omega⟩
  have hu : u < I.nV := by omega
  obtain ⟨b1, b2, hx⟩ := start_bds hc hval hu
  obtain ⟨k0, k1, k2, k3⟩ := StV.co_bd hc
  obtain ⟨q1, q2, q3⟩ := lens_bd (validB_parts hval).1
  have hm := StV.mul_bd k2 k3 q2
  have hpl := plOf_ok' hval (n := (u : Int)) (by omega) (by unfold nodes; omega)
  have a1 := hpl.o0
  have a2 := hpl.oc
  have a3 := hpl.c1
  unfold startB
  rw [if_pos ⟨hc, ht⟩, Int.toNat_natCast]
  by_cases h0 : 0 ≤ (startOut C I u).2.2
  · rw [if_pos h0]
    exact ⟨okSt_bare hc ht (by omega) (by omega) h0 (by omega), by show (0 : Int) ≠ -1; omega, fun h => absurd h0 h⟩
  rw [if_neg h0]
  refine ⟨okSt_run hc ht ?_, by show (0 : Int) ≠ -1; omega, fun _ => rfl⟩
  have e3 : inB (plOf I (u : Int)).o 0 1000000000 = true := inb (by omega) (by omega)
  have e6 : listB I.nQ (fun i => (zeros I.nQ).getD i 0) (I.nQ : Int) 0 2 = true := by
    unfold listB
    rw [all_in (fun i hi => by rw [zeros_get]; omega)]
    simp
  have e7 : listB C.R.toNat (fun i => (startOut C I u).1.getD i 0) C.R (-1000000000) 1000000000 = true := by
    unfold listB; rw [bd_all b1]; simp; omega
  have e8 : listB (C.S * (I.nQ : Int)).toNat (fun i => (startOut C I u).2.1.getD i 0) (C.S * (I.nQ : Int)) (-1000000000) 1000000000 = true := by
    unfold listB; rw [bd_all b2]; simp; omega
  unfold runB standB
  simp only [e3, e6, e7, e8, if_true, Bool.and_true, beq_self_eq_true]
  rfl
/-- The state after k stops. -/
def aftN (C : Co) (I : In) (v : Int) (L : Nat → Int) : Nat → St
  | 0 => startB C I v
  | k + 1 => stepB C I v (aftN C I v L k) (L k)
theorem aft_ok {C : Co} {I : In} {v : Int} {L : Nat → Int} (hc : ValC.okCo C = true) (ht : tripB I v = true) : ∀ k, k ≤ 4096 → (∀ i, i < k → stopB I (L i) = true) → okSt C I v (aftN C I v L k) = true ∧ (aftN C I v L k).p ≠ -1 ∧ (¬ 0 ≤ (aftN C I v L k).r → (aftN C I v L k).p = (k : Int)) := by
  intro k
  induction k with
  | zero => intro _ _; exact okSt_start hc ht
  | succ k ih =>
    intro hk hs
    obtain ⟨h1, h2, h3⟩ := ih (by omega) (fun i hi => hs i (by omega))
    obtain ⟨v0, -, -⟩ := trip_bd ht
    obtain ⟨u, rfl⟩ : ∃ u : Nat, v = (u : Int) := ⟨v.toNat, by omega⟩
    obtain ⟨g1, g2, g3⟩ := okSt_step h1 h2 (hs k (by omega)) (fun hr => by have := h3 hr; omega)
    exact ⟨g1, g2, fun hr => by obtain ⟨e1, e2⟩ := g3 hr; have e3 := h3 e1; show (stepB C I (u : Int) (aftN C I (u : Int) L k) (L k)).p = _; omega⟩
/-- A rule that is broken stays broken. -/
theorem step_bare {C : Co} {I : In} {v : Int} {S : St} {n : Int} (hok : okSt C I v S = true) (hp : S.p ≠ -1) (hr : 0 ≤ S.r) : stepB C I v S n = bareS S.p S.r := by
  unfold stepB
  rw [if_neg (by rw [hok]; simp [hp]), if_pos hr]
/-- What RunRoute answers. -/
def routeV (C : Co) (I : In) (v : Int) (n : Nat) (L : Nat → Int) : Int × Int × Int :=
  if ValC.okCo C = true ∧ Route.routeB I v n L = true then finB C I v (aftN C I v L n) else (0, 0, 0)
end Go.Proofs.YtgooegcmgejfpaaGreatDoor.Mac
