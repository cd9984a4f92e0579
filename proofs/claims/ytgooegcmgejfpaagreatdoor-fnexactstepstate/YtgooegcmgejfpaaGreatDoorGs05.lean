import Derived.Test.YtgooegcmgejfpaaGreatDoorGs04
import Derived.Deep.DrawnRows
namespace Go.Proofs.YtgooegcmgejfpaaGreatDoor.StV
open Go Go.RowKit Go.Proofs.YtgooegcmgejfpaaGreatDoor.Mem
open Go.Proofs.YtgooegcmgejfpaaGreatDoor.Valid (inB ret_bool nodes validB inI inS nodes_bd nodesI nodesS)
set_option linter.unusedVariables false
set_option linter.unusedSimpArgs false
attribute [local go_sem ↓] Go.wp_at_zero Go.wp_at_succ

set_option maxHeartbeats 1600000 in
set_option maxRecDepth 100000 in
theorem bareS (a1 a2 a3 : Option Addr) (c1 c2 c3 : Nat) (S : St) (w : World) :
    Calls Tryz.prog 113 #[.agg #[.int .i64 S.p, .int .i64 S.r, .int .i64 S.d, .int .i64 S.t, .int .i64 S.s, .int .i64 S.l, .slice a1 S.n1 c1, .slice a2 S.n2 c2, .slice a3 S.n3 c3]] w fun e w' => e = .returned (.bool (bareB S)) ∧ Below w.heap.size w w' := by
  go_enter Tryz.func113, Tryz.ntmps113
  go_wp2
  all_goals (go_ret; refine ⟨ret_bool ?_, ?_⟩)
  all_goals first | (go_grown; done) | (simp [bareB, *]; done)
set_option maxHeartbeats 1600000 in
set_option maxRecDepth 100000 in
theorem bareI (a1 a2 a3 : Option Addr) (c1 c2 c3 : Nat) (S : St) (w : World) :
    Calls Tryz.prog 119 #[.agg #[.int .i64 S.p, .int .i64 S.r, .int .i64 S.d, .int .i64 S.t, .int .i64 S.s, .int .i64 S.l, .slice a1 S.n1 c1, .slice a2 S.n2 c2, .slice a3 S.n3 c3]] w fun e w' => e = .returned (.bool (bareB S)) ∧ Below w.heap.size w w' := by
  go_enter Tryz.func119, Tryz.ntmps119
  go_wp2
  all_goals (go_ret; refine ⟨ret_bool ?_, ?_⟩)
  all_goals first | (go_grown; done) | (simp [bareB, *]; done)
set_option maxHeartbeats 1600000 in
set_option maxRecDepth 100000 in
theorem deadI (a1 a2 a3 : Option Addr) (c1 c2 c3 : Nat) (S : St) (w : World) :
    Calls Tryz.prog 72 #[.agg #[.int .i64 S.p, .int .i64 S.r, .int .i64 S.d, .int .i64 S.t, .int .i64 S.s, .int .i64 S.l, .slice a1 S.n1 c1, .slice a2 S.n2 c2, .slice a3 S.n3 c3]] w fun e w' => e = .returned (.bool (deadB S)) ∧ Below w.heap.size w w' := by
  cases h1 : (S.p == -1) with
  | false =>
    go_enter Tryz.func72, Tryz.ntmps72
    go_wp2
    go_ret
    exact ⟨ret_bool (by simp only [deadB, h1, Bool.false_and]), by go_grown⟩
  | true =>
    cases h2 : (S.r == -1) with
    | false =>
      go_enter Tryz.func72, Tryz.ntmps72
      go_wp2
      go_ret
      exact ⟨ret_bool (by simp only [deadB, h2, Bool.false_and, Bool.and_false]), by go_grown⟩
    | true =>
      have hd : Hid (deadB S = bareB S) := by unfold Hid deadB; rw [h1, h2]; rfl
      go_enter Tryz.func72, Tryz.ntmps72
      go_wp2_with fail
      refine (bareI a1 a2 a3 c1 c2 c3 S _).mono ?_
      rintro e w1 ⟨rfl, hb⟩
      have hk := Hid.mk (below_then (w := w) (by go_grown) hb)
      clear hb
      go_wp2
      go_ret
      exact ⟨ret_bool hd.out.symm, hk.out⟩
set_option maxHeartbeats 1600000 in
set_option maxRecDepth 100000 in
theorem failI (a1 a2 a3 : Option Addr) (c1 c2 c3 : Nat) (S : St) (w : World) :
    Calls Tryz.prog 117 #[.agg #[.int .i64 S.p, .int .i64 S.r, .int .i64 S.d, .int .i64 S.t, .int .i64 S.s, .int .i64 S.l, .slice a1 S.n1 c1, .slice a2 S.n2 c2, .slice a3 S.n3 c3]] w fun e w' => e = .returned (.bool (failB S)) ∧ Below w.heap.size w w' := by
  go_enter Tryz.func117, Tryz.ntmps117
  go_wp2_with (first | (go_at_call 102; refine (inI _ _ _ _).mono ?_; rintro e w' ⟨rfl, rfl⟩) | (go_at_call 119; refine (bareI a1 a2 a3 c1 c2 c3 S _).mono ?_; rintro e w1 ⟨rfl, hb⟩))
  all_goals (go_ret; refine ⟨ret_bool ?_, ?_⟩)
  all_goals first | (go_grown; done) | (simp [failB, *]; done) | exact below_then (by go_grown) hb
set_option maxHeartbeats 1600000 in
set_option maxRecDepth 100000 in
theorem stopI (a1 a2 a3 : Option Addr) (c1 c2 c3 : Nat) (I : In) (x : Int) (w : World) (h1 : I.nV ≤ 1048576) (h2 : I.nQ ≤ 1048576) :
    Calls Tryz.prog 73 #[.agg #[.slice a1 I.nV c1, .slice a2 I.nQ c2, .slice a3 I.nR c3], .int .i64 x] w fun e w' => e = .returned (.bool (stopB I x)) ∧ Below w.heap.size w w' := by
  have nb := nodes_bd I h1 h2
  go_enter Tryz.func73, Tryz.ntmps73
  go_wp2_with fail
  go_region_held3 (fun w' => w'.cell? ⟨w.heap.size, 0, none⟩ = some (.slice a1 I.nV c1) ∧ w'.cell? ⟨w.heap.size, 1, none⟩ = some (.slice a2 I.nQ c2) ∧ w'.cell? ⟨w.heap.size, 2, none⟩ = some (.slice a3 I.nR c3))
    (first | go_keep | ((repeat' constructor) <;> exact cell_keep hb1 (by first | assumption | (simp [*]; done))))
    ((first | (go_at_call 120; refine (nodesI _ _ _ _ _ _ I _ h1 h2).mono ?_; rintro e w1 ⟨rfl, hb1⟩) | (go_at_call 102; refine (inI _ _ _ _).mono ?_; rintro e w2 ⟨rfl, rfl⟩)))
  go_wp2
  go_ret
  have hw : IntKind.i64.wrap (nodes I - 1) = nodes I - 1 := by rw [IntKind.wrap_i64]; omega
  exact ⟨by show Ending.returned (.bool (inB x (I.nV : Int) (IntKind.i64.wrap (nodes I - 1)))) = _; rw [hw]; rfl, below_then (by go_grown) hb1⟩
set_option maxHeartbeats 1600000 in
set_option maxRecDepth 100000 in
theorem stopS (a1 a2 a3 : Option Addr) (c1 c2 c3 : Nat) (I : In) (x : Int) (w : World) (h1 : I.nV ≤ 1048576) (h2 : I.nQ ≤ 1048576) :
    Calls Tryz.prog 65 #[.agg #[.slice a1 I.nV c1, .slice a2 I.nQ c2, .slice a3 I.nR c3], .int .i64 x] w fun e w' => e = .returned (.bool (stopB I x)) ∧ Below w.heap.size w w' := by
  have nb := nodes_bd I h1 h2
  go_enter Tryz.func65, Tryz.ntmps65
  go_wp2_with fail
  go_region_held3 (fun w' => w'.cell? ⟨w.heap.size, 0, none⟩ = some (.slice a1 I.nV c1) ∧ w'.cell? ⟨w.heap.size, 1, none⟩ = some (.slice a2 I.nQ c2) ∧ w'.cell? ⟨w.heap.size, 2, none⟩ = some (.slice a3 I.nR c3))
    (first | go_keep | ((repeat' constructor) <;> exact cell_keep hb1 (by first | assumption | (simp [*]; done))))
    ((first | (go_at_call 85; refine (nodesS _ _ _ _ _ _ I _ h1 h2).mono ?_; rintro e w1 ⟨rfl, hb1⟩) | (go_at_call 37; refine (inS _ _ _ _).mono ?_; rintro e w2 ⟨rfl, rfl⟩)))
  go_wp2
  go_ret
  have hw : IntKind.i64.wrap (nodes I - 1) = nodes I - 1 := by rw [IntKind.wrap_i64]; omega
  exact ⟨by show Ending.returned (.bool (inB x (I.nV : Int) (IntKind.i64.wrap (nodes I - 1)))) = _; rw [hw]; rfl, below_then (by go_grown) hb1⟩
set_option maxHeartbeats 1600000 in
set_option maxRecDepth 100000 in
theorem tripI (a1 a2 a3 : Option Addr) (c1 c2 c3 : Nat) (I : In) (v : Int) (w : World) (h : InAt w a1 a2 a3 I) (h1 : I.nV ≤ 1048576) (h2 : I.nQ ≤ 1048576) (h3 : I.nR ≤ 1048576) :
    Calls Tryz.prog 49 #[.agg #[.slice a1 I.nV c1, .slice a2 I.nQ c2, .slice a3 I.nR c3], .int .i64 v] w fun e w' => e = .returned (.bool (tripB I v)) ∧ Below w.heap.size w w' := by
  have H := Hid.mk h
  clear h
  go_enter Tryz.func49, Tryz.ntmps49
  go_wp2_with (first | (go_at_call 102; refine (inI _ _ _ _).mono ?_; rintro e w' ⟨rfl, rfl⟩) | (go_at_call 104; refine (Valid.validI a1 a2 a3 c1 c2 c3 I _ (H.out.below (by go_grown)) h1 h2 h3).mono ?_; rintro e w1 ⟨rfl, hb⟩))
  all_goals (go_ret; refine ⟨ret_bool ?_, ?_⟩)
  all_goals first | (go_grown; done) | (simp [tripB, *]; done) | exact below_then (by go_grown) hb
set_option maxHeartbeats 1600000 in
set_option maxRecDepth 100000 in
theorem standI (a1 a2 a3 b1 b2 b3 : Option Addr) (c1 c2 c3 d1 d2 d3 : Nat) (I : In) (v : Int) (S : St) (w : World) (h1 : I.nV ≤ 1048576) (h2 : I.nQ ≤ 1048576) :
    Calls Tryz.prog 167 #[.agg #[.slice a1 I.nV c1, .slice a2 I.nQ c2, .slice a3 I.nR c3], .int .i64 v, .agg #[.int .i64 S.p, .int .i64 S.r, .int .i64 S.d, .int .i64 S.t, .int .i64 S.s, .int .i64 S.l, .slice b1 S.n1 d1, .slice b2 S.n2 d2, .slice b3 S.n3 d3]] w fun e w' => e = .returned (.bool (standB I v S)) ∧ Below w.heap.size w w' := by
  cases hp : (S.p == 0) with
  | true =>
    have hp' : S.p = 0 := by simpa using hp
    go_enter Tryz.func167, Tryz.ntmps167
    go_wp2
    go_ret
    exact ⟨ret_bool (by simp [standB, hp']), by go_grown⟩
  | false =>
    have hp' : ¬ S.p = 0 := by simpa using hp
    go_enter Tryz.func167, Tryz.ntmps167
    go_wp2_with (go_at_call 73; refine (stopI a1 a2 a3 c1 c2 c3 I _ _ h1 h2).mono ?_; rintro e w1 ⟨rfl, hb⟩)
    go_ret
    exact ⟨ret_bool (by simp [standB, hp']), below_then (by go_grown) hb⟩

theorem all_no {n k : Nat} {L : Nat → Int} {lo hi : Int} (hk : k < n) (h : inB (L k) lo hi = false) : allIn n L lo hi = false := allB_false (f := fun i => inB (L i) lo hi) hk h
set_option maxHeartbeats 1600000 in
set_option maxRecDepth 100000 in
theorem listI (a : Option Addr) (n c : Nat) (L : Nat → Int) (m lo hi : Int) (w : World) (hs : NumsAt w a n L) (hn : n ≤ 1048576) :
    Calls Tryz.prog 168 #[.slice a n c, .int .i64 m, .int .i64 lo, .int .i64 hi] w fun e w' => e = .returned (.bool (listB n L m lo hi)) ∧ Below w.heap.size w w' := by
  have HS := Hid.mk hs
  clear hs
  cases hm : ((n : Int) == m) with
  | false =>
    go_enter Tryz.func168, Tryz.ntmps168
    go_wp2
    go_ret
    exact ⟨ret_bool (by simp [listB, hm]), by go_grown⟩
  | true =>
    have hl : Hid (listB n L m lo hi = allIn n L lo hi) := by unfold Hid listB; rw [hm]; rfl
    obtain rfl : (n : Int) = m := by simpa using hm
    clear hm
    go_enter Tryz.func168, Tryz.ntmps168
    go_wp2
    go_loopw [17] (fun i wr => ∃ k : Nat, k ≤ n ∧ i = .int .i64 k ∧ Hid (Below w.heap.size w wr) ∧ Hid (allIn k L lo hi = true)) (fun i _ => n - (intOf i).toNat)
    case atStart => exact ⟨0, Nat.zero_le _, rfl, Below.refl _ _, rfl⟩
    case round =>
      obtain ⟨k, hk, rfl, hb, ha⟩ := hrel
      by_cases hlt : k < n
      · obtain ⟨b, off, rfl, c0⟩ := NumsAt.at (HS.out.below hb.out) hlt
        have k0 : (0 : Int) ≤ (k : Int) := by omega
        have k1 : (k : Int) < (n : Int) := by omega
        cases hg : inB (L k) lo hi with
        | false =>
          have hv := Hid.mk (hl.out.trans (all_no hlt hg))
          go_wp2_with (go_at_call 102; refine (inI _ _ _ _).mono ?_; rintro e w' ⟨rfl, rfl⟩)
          go_ret
          exact ⟨ret_bool hv.out.symm, hb.out⟩
        | true =>
          have ha' : Hid (allIn (k + 1) L lo hi = true) := allB_succ ha.out hg
          go_wp2_with (go_at_call 102; refine (inI _ _ _ _).mono ?_; rintro e w' ⟨rfl, rfl⟩)
          exact ⟨⟨k + 1, by omega, by go_num, hb, ha'⟩, by simp [intOf]; omega⟩
      · obtain rfl : n = k := by omega
        go_wp2
        go_ret
        exact ⟨ret_bool (by rw [hl.out, ha.out]), hb.out⟩
set_option maxHeartbeats 1600000 in
set_option maxRecDepth 100000 in
theorem allS (a : Option Addr) (n c : Nat) (L : Nat → Int) (lo hi : Int) (w : World) (hs : NumsAt w a n L) (hn : n ≤ 1048576) :
    Calls Tryz.prog 114 #[.slice a n c, .int .i64 lo, .int .i64 hi] w fun e w' => e = .returned (.bool (allIn n L lo hi)) ∧ Below w.heap.size w w' := by
  have HS := Hid.mk hs
  clear hs
  go_enter Tryz.func114, Tryz.ntmps114
  go_wp2
  go_loopw [7] (fun i wr => ∃ k : Nat, k ≤ n ∧ i = .int .i64 k ∧ Hid (Below w.heap.size w wr) ∧ Hid (allIn k L lo hi = true)) (fun i _ => n - (intOf i).toNat)
  case atStart => exact ⟨0, Nat.zero_le _, rfl, Below.refl _ _, rfl⟩
  case round =>
    obtain ⟨k, hk, rfl, hb, ha⟩ := hrel
    by_cases hlt : k < n
    · obtain ⟨b, off, rfl, c0⟩ := NumsAt.at (HS.out.below hb.out) hlt
      have k0 : (0 : Int) ≤ (k : Int) := by omega
      have k1 : (k : Int) < (n : Int) := by omega
      cases hg : inB (L k) lo hi with
      | false =>
        have hv := Hid.mk (all_no hlt hg)
        go_wp2_with (go_at_call 37; refine (inS _ _ _ _).mono ?_; rintro e w' ⟨rfl, rfl⟩)
        go_ret
        exact ⟨ret_bool hv.out.symm, hb.out⟩
      | true =>
        have ha' : Hid (allIn (k + 1) L lo hi = true) := allB_succ ha.out hg
        go_wp2_with (go_at_call 37; refine (inS _ _ _ _).mono ?_; rintro e w' ⟨rfl, rfl⟩)
        exact ⟨⟨k + 1, by omega, by go_num, hb, ha'⟩, by simp [intOf]; omega⟩
    · obtain rfl : n = k := by omega
      go_wp2
      go_ret
      exact ⟨ret_bool ha.out.symm, hb.out⟩
end Go.Proofs.YtgooegcmgejfpaaGreatDoor.StV
namespace Go.Proofs.YtgooegcmgejfpaaGreatDoor.StV
open Go Go.RowKit Go.Proofs.YtgooegcmgejfpaaGreatDoor.Mem
open Go.Proofs.YtgooegcmgejfpaaGreatDoor.Valid (inB ret_bool nodes validB inI inS nodes_bd nodesI nodesS)
set_option linter.unusedVariables false
set_option linter.unusedSimpArgs false
attribute [local go_sem ↓] Go.wp_at_zero Go.wp_at_succ

set_option maxHeartbeats 4000000 in
set_option maxRecDepth 100000 in
theorem runI (a1 a2 a3 b1 b2 b3 s1 s2 s3 : Option Addr) (c1 c2 c3 d1 d2 d3 t1 t2 t3 : Nat) (C : Co) (I : In) (v : Int) (S : St) (w : World) (hS : StAt w s1 s2 s3 S) (hR0 : 13 ≤ C.R) (hR1 : C.R ≤ 1000) (hS0 : 0 ≤ C.S) (hS1 : C.S ≤ 100) (hV : I.nV ≤ 64) (hQ : I.nQ ≤ 1000) (m1 : S.n1 ≤ 1048576) (m2 : S.n2 ≤ 1048576) (m3 : S.n3 ≤ 1048576) :
    Calls Tryz.prog 118 #[.agg #[.int .i64 C.R, .int .i64 C.S, .slice a1 C.n1 c1, .slice a2 C.n2 c2, .slice a3 C.n3 c3], .agg #[.slice b1 I.nV d1, .slice b2 I.nQ d2, .slice b3 I.nR d3], .int .i64 v, .agg #[.int .i64 S.p, .int .i64 S.r, .int .i64 S.d, .int .i64 S.t, .int .i64 S.s, .int .i64 S.l, .slice s1 S.n1 t1, .slice s2 S.n2 t2, .slice s3 S.n3 t3]] w fun e w' => e = .returned (.bool (runB C I v S)) ∧ Below w.heap.size w w' := by
  have HS := Hid.mk hS
  clear hS
  have hmw := mul_wrap hS0 hS1 hQ
  have hmb := mul_bd hS0 hS1 hQ
  have hw4 : C.S * (I.nQ : Int) = C.S * (I.nQ : Int) := rfl
  clear hw4
  cases g0 : (S.r == -1) with
  | false =>
    go_enter Tryz.func118, Tryz.ntmps118
    go_wp2
    go_ret
    exact ⟨ret_bool (by simp only [runB, g0, Bool.false_and, Bool.and_false]), by go_grown⟩
  | true =>
    go_enter Tryz.func118, Tryz.ntmps118
    go_wp2_with fail
    refine (inI _ _ _ _).mono ?_
    rintro e w' ⟨rfl, rfl⟩
    cases g1 : inB S.p 0 4096 with
    | false =>
      go_wp2
      go_ret
      exact ⟨ret_bool (by simp only [runB, g1, Bool.false_and, Bool.and_false]), by go_grown⟩
    | true =>
      go_wp2_with fail
      refine (standI b1 b2 b3 s1 s2 s3 d1 d2 d3 t1 t2 t3 I v S _ (by omega) (by omega)).mono ?_
      rintro e w1 ⟨rfl, hb⟩
      have HB1 := Hid.mk (below_then (w := w) (by go_grown) hb)
      have A0 := Hid.mk (blk_below (blk_alloc (blk_alloc (blk_new w _) _) _) hb)
      have A2 := Hid.mk (blk_below (blk_new2 w _ _ _) hb)
      clear hb
      cases g2 : standB I v S with
      | false =>
        go_wp2
        go_ret
        exact ⟨ret_bool (by simp only [runB, g2, Bool.false_and, Bool.and_false]), HB1.out⟩
      | true =>
        have x := blk_cell A2.out 3
        simp only [List.getElem?_toArray, List.getElem?_cons_zero, List.getElem?_cons_succ] at x
        go_wp2_with fail
        clear x
        refine (inI _ _ _ _).mono ?_
        rintro e w' ⟨rfl, rfl⟩
        cases g3 : inB S.t 0 1000000000 with
        | false =>
          go_wp2
          go_ret
          exact ⟨ret_bool (by simp only [runB, g3, Bool.false_and, Bool.and_false]), HB1.out⟩
        | true =>
          have x := blk_cell A2.out 4
          simp only [List.getElem?_toArray, List.getElem?_cons_zero, List.getElem?_cons_succ] at x
          go_wp2_with fail
          clear x
          refine (inI _ _ _ _).mono ?_
          rintro e w' ⟨rfl, rfl⟩
          cases g4 : inB S.s 0 1000000000 with
          | false =>
            go_wp2
            go_ret
            exact ⟨ret_bool (by simp only [runB, g4, Bool.false_and, Bool.and_false]), HB1.out⟩
          | true =>
            have x := blk_cell A2.out 5
            simp only [List.getElem?_toArray, List.getElem?_cons_zero, List.getElem?_cons_succ] at x
            go_wp2_with fail
            clear x
            refine (inI _ _ _ _).mono ?_
            rintro e w' ⟨rfl, rfl⟩
            cases g5 : inB S.l (-1000000000) 1000000000 with
            | false =>
              go_wp2
              go_ret
              exact ⟨ret_bool (by simp only [runB, g5, Bool.false_and, Bool.and_false]), HB1.out⟩
            | true =>
              have x := blk_cell A2.out 6
              simp only [List.getElem?_toArray, List.getElem?_cons_zero, List.getElem?_cons_succ] at x
              go_wp2_with fail
              clear x
              refine (listI _ _ _ S.L1 _ _ _ _ (HS.out.s1.below HB1.out) m1).mono ?_
              rintro e w2 ⟨rfl, hb⟩
              have HB2 := Hid.mk (below_then HB1.out hb)
              have A0' := Hid.mk (blk_below A0.out hb)
              have A2' := Hid.mk (blk_below A2.out hb)
              clear HB1 A0 A2 hb
              have HB1 := HB2
              have A0 := A0'
              have A2 := A2'
              clear HB2 A0' A2'
              cases g6 : listB S.n1 S.L1 (I.nQ : Int) 0 2 with
              | false =>
                go_wp2
                go_ret
                exact ⟨ret_bool (by simp only [runB, g6, Bool.false_and, Bool.and_false]), HB1.out⟩
              | true =>
                have x := blk_cell A2.out 7
                have y := blk_cell A0.out 0
                simp only [List.getElem?_toArray, List.getElem?_cons_zero, List.getElem?_cons_succ] at x y
                go_wp2_with fail
                clear x y
                refine (listI _ _ _ S.L2 _ _ _ _ (HS.out.s2.below HB1.out) m2).mono ?_
                rintro e w3 ⟨rfl, hb⟩
                have HB2 := Hid.mk (below_then HB1.out hb)
                have A0' := Hid.mk (blk_below A0.out hb)
                have A2' := Hid.mk (blk_below A2.out hb)
                clear HB1 A0 A2 hb
                have HB1 := HB2
                have A0 := A0'
                have A2 := A2'
                clear HB2 A0' A2'
                cases g7 : listB S.n2 S.L2 C.R (-1000000000) 1000000000 with
                | false =>
                  go_wp2
                  go_ret
                  exact ⟨ret_bool (by simp only [runB, g7, Bool.false_and, Bool.and_false]), HB1.out⟩
                | true =>
                  have x := blk_cell A2.out 8
                  have y := blk_cell A0.out 1
                  simp only [List.getElem?_toArray, List.getElem?_cons_zero, List.getElem?_cons_succ] at x y
                  go_wp2_with fail
                  clear x y
                  refine (listI _ _ _ S.L3 _ _ _ _ (HS.out.s3.below HB1.out) m3).mono ?_
                  rintro e w4 ⟨rfl, hb⟩
                  have HB2 := Hid.mk (below_then HB1.out hb)
                  have A0' := Hid.mk (blk_below A0.out hb)
                  have A2' := Hid.mk (blk_below A2.out hb)
                  clear HB1 A0 A2 hb
                  have HB1 := HB2
                  have A0 := A0'
                  have A2 := A2'
                  clear HB2 A0' A2'
                  go_wp2
                  go_ret
                  exact ⟨ret_bool (by simp only [runB, g0, g1, g2, g3, g4, g5, g6, g7, Bool.true_and]), HB1.out⟩

set_option maxHeartbeats 4000000 in
set_option maxRecDepth 100000 in
theorem validStI (a1 a2 a3 b1 b2 b3 s1 s2 s3 : Option Addr) (c1 c2 c3 d1 d2 d3 t1 t2 t3 : Nat) (C : Co) (I : In) (v : Int) (S : St) (w : World) (hC : CoAt w a1 a2 a3 C) (hI : InAt w b1 b2 b3 I) (hS : StAt w s1 s2 s3 S) (k1 : C.n1 ≤ 1048576) (k2 : C.n2 ≤ 1048576) (k3 : C.n3 ≤ 1048576) (h1 : I.nV ≤ 1048576) (h2 : I.nQ ≤ 1048576) (h3 : I.nR ≤ 1048576) (m1 : S.n1 ≤ 1048576) (m2 : S.n2 ≤ 1048576) (m3 : S.n3 ≤ 1048576) (hT : ValC.TabC w) :
    Calls Tryz.prog 71 #[.agg #[.int .i64 C.R, .int .i64 C.S, .slice a1 C.n1 c1, .slice a2 C.n2 c2, .slice a3 C.n3 c3], .agg #[.slice b1 I.nV d1, .slice b2 I.nQ d2, .slice b3 I.nR d3], .int .i64 v, .agg #[.int .i64 S.p, .int .i64 S.r, .int .i64 S.d, .int .i64 S.t, .int .i64 S.s, .int .i64 S.l, .slice s1 S.n1 t1, .slice s2 S.n2 t2, .slice s3 S.n3 t3]] w fun e w' => e = .returned (.bool (okSt C I v S)) ∧ Below w.heap.size w w' := by
  have HC := Hid.mk hC
  have HI := Hid.mk hI
  have HS := Hid.mk hS
  have HT := Hid.mk hT
  clear hC hI hS hT
  have hK : Below w.heap.size w (((w.alloc (.cells #[.int .i64 C.R, .int .i64 C.S, .slice a1 C.n1 c1, .slice a2 C.n2 c2, .slice a3 C.n3 c3] 38)).alloc (.cells #[.slice b1 I.nV d1, .slice b2 I.nQ d2, .slice b3 I.nR d3] 44)).alloc (.cells #[.int .i64 S.p, .int .i64 S.r, .int .i64 S.d, .int .i64 S.t, .int .i64 S.s, .int .i64 S.l, .slice s1 S.n1 t1, .slice s2 S.n2 t2, .slice s3 S.n3 t3] 34)) := by go_grown
  have HK := Hid.mk hK
  clear hK
  go_enter Tryz.func71, Tryz.ntmps71
  go_wp2_with fail
  refine (ValC.validI a1 a2 a3 c1 c2 c3 C _ (HC.out.below HK.out) k1 k2 k3 (HT.out.below HK.out)).mono ?_
  rintro e w1 ⟨rfl, hb⟩
  have HB1 := Hid.mk (below_then HK.out hb)
  have A0 := Hid.mk (blk_below (blk_alloc (blk_alloc (blk_new w _) _) _) hb)
  have A1 := Hid.mk (blk_below (blk_alloc (blk_new1 w _ _) _) hb)
  have A2 := Hid.mk (blk_below (blk_new2 w _ _ _) hb)
  clear hb HK
  cases g0 : ValC.okCo C with
  | false =>
    go_wp2
    go_ret
    exact ⟨ret_bool (by simp only [okSt, g0, Bool.false_and]), HB1.out⟩
  | true =>
    have x0 := blk_cell A1.out 0
    have x1 := blk_cell A1.out 1
    have x2 := blk_cell A1.out 2
    simp only [List.getElem?_toArray, List.getElem?_cons_zero, List.getElem?_cons_succ] at x0 x1 x2
    go_wp2_with fail
    clear x0 x1 x2
    refine (tripI b1 b2 b3 d1 d2 d3 I v _ (HI.out.below HB1.out) h1 h2 h3).mono ?_
    rintro e w2 ⟨rfl, hb⟩
    have HB2 := Hid.mk (below_then HB1.out hb)
    have B0 := Hid.mk (blk_below A0.out hb)
    have B1 := Hid.mk (blk_below A1.out hb)
    have B2 := Hid.mk (blk_below A2.out hb)
    clear hb HB1 A0 A1 A2
    cases g1 : tripB I v with
    | false =>
      go_wp2
      go_ret
      exact ⟨ret_bool (by simp only [okSt, g1, Bool.false_and, Bool.and_false]), HB2.out⟩
    | true =>
      have hok : Hid (okSt C I v S = (deadB S || failB S || runB C I v S)) := by unfold Hid okSt; rw [g0, g1]; rfl
      obtain ⟨q1, q2, q3, q4⟩ := co_bd g0
      obtain ⟨r1, r2, r3⟩ := in_bd (show validB I = true by simp [tripB] at g1; exact g1.2)
      have x0 := blk_cell B2.out 0
      have x1 := blk_cell B2.out 1
      have x2 := blk_cell B2.out 2
      have x3 := blk_cell B2.out 3
      have x4 := blk_cell B2.out 4
      have x5 := blk_cell B2.out 5
      have x6 := blk_cell B2.out 6
      have x7 := blk_cell B2.out 7
      have x8 := blk_cell B2.out 8
      simp only [List.getElem?_toArray, List.getElem?_cons_zero, List.getElem?_cons_succ] at x0 x1 x2 x3 x4 x5 x6 x7 x8
      go_wp2_with fail
      clear x0 x1 x2 x3 x4 x5 x6 x7 x8
      refine (deadI s1 s2 s3 t1 t2 t3 S _).mono ?_
      rintro e w3 ⟨rfl, hb⟩
      have HB3 := Hid.mk (below_then HB2.out hb)
      have C0 := Hid.mk (blk_below B0.out hb)
      have C1 := Hid.mk (blk_below B1.out hb)
      have C2 := Hid.mk (blk_below B2.out hb)
      clear hb HB2 B0 B1 B2
      cases g2 : deadB S with
      | true =>
        go_wp2
        go_ret
        exact ⟨ret_bool (by rw [hok.out, g2]; rfl), HB3.out⟩
      | false =>
        have x0 := blk_cell C2.out 0
        have x1 := blk_cell C2.out 1
        have x2 := blk_cell C2.out 2
        have x3 := blk_cell C2.out 3
        have x4 := blk_cell C2.out 4
        have x5 := blk_cell C2.out 5
        have x6 := blk_cell C2.out 6
        have x7 := blk_cell C2.out 7
        have x8 := blk_cell C2.out 8
        simp only [List.getElem?_toArray, List.getElem?_cons_zero, List.getElem?_cons_succ] at x0 x1 x2 x3 x4 x5 x6 x7 x8
        go_wp2_with fail
        clear x0 x1 x2 x3 x4 x5 x6 x7 x8
        refine (failI s1 s2 s3 t1 t2 t3 S _).mono ?_
        rintro e w4 ⟨rfl, hb⟩
        have HB4 := Hid.mk (below_then HB3.out hb)
        have D0 := Hid.mk (blk_below C0.out hb)
        have D1 := Hid.mk (blk_below C1.out hb)
        have D2 := Hid.mk (blk_below C2.out hb)
        clear hb HB3 C0 C1 C2
        cases g3 : failB S with
        | true =>
          go_wp2
          go_ret
          exact ⟨ret_bool (by rw [hok.out, g2, g3]; rfl), HB4.out⟩
        | false =>
          have x0 := blk_cell D2.out 0
          have x1 := blk_cell D2.out 1
          have x2 := blk_cell D2.out 2
          have x3 := blk_cell D2.out 3
          have x4 := blk_cell D2.out 4
          have x5 := blk_cell D2.out 5
          have x6 := blk_cell D2.out 6
          have x7 := blk_cell D2.out 7
          have x8 := blk_cell D2.out 8
          have y0 := blk_cell D1.out 0
          have y1 := blk_cell D1.out 1
          have y2 := blk_cell D1.out 2
          have z0 := blk_cell D0.out 0
          have z1 := blk_cell D0.out 1
          have z2 := blk_cell D0.out 2
          have z3 := blk_cell D0.out 3
          have z4 := blk_cell D0.out 4
          simp only [List.getElem?_toArray, List.getElem?_cons_zero, List.getElem?_cons_succ] at x0 x1 x2 x3 x4 x5 x6 x7 x8 y0 y1 y2 z0 z1 z2 z3 z4
          go_wp2_with fail
          clear x0 x1 x2 x3 x4 x5 x6 x7 x8 y0 y1 y2 z0 z1 z2 z3 z4
          refine (runI a1 a2 a3 b1 b2 b3 s1 s2 s3 c1 c2 c3 d1 d2 d3 t1 t2 t3 C I v S _ (HS.out.below HB4.out) q1 q2 q3 q4 r1 r2 m1 m2 m3).mono ?_
          rintro e w5 ⟨rfl, hb⟩
          have HB5 := Hid.mk (below_then HB4.out hb)
          clear hb
          go_wp2
          go_ret
          exact ⟨ret_bool (by rw [hok.out, g2, g3]; rfl), HB5.out⟩
end Go.Proofs.YtgooegcmgejfpaaGreatDoor.StV
