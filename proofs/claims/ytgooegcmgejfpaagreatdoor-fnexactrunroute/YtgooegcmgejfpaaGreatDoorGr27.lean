import Derived.Test.YtgooegcmgejfpaaGreatDoorGr16
import Derived.Test.YtgooegcmgejfpaaGreatDoorGr26
namespace Go.Proofs.YtgooegcmgejfpaaGreatDoor.StV
open Go Go.RowKit Go.Proofs.YtgooegcmgejfpaaGreatDoor.Mem
open Go.Proofs.YtgooegcmgejfpaaGreatDoor.Valid (inB ret_bool nodes validB inI inS nodes_bd nodesI nodesS)
set_option linter.unusedVariables false
set_option linter.unusedSimpArgs false
attribute [local go_sem ↓] Go.wp_at_zero Go.wp_at_succ

theorem okSt_fail {C : Co} {I : In} {v : Int} {S : St} (g0 : ValC.okCo C = true) (g1 : tripB I v = true) (h : 0 ≤ S.r) : okSt C I v S = (bareB S && inB S.p 0 4097 && decide (S.r ≤ 100)) := by
  have e1 : (S.r == -1) = false := by simp; omega
  have e2 : decide (0 ≤ S.r) = true := by simpa using h
  have e3 : inB S.r 0 100 = decide (S.r ≤ 100) := by unfold inB; rw [e2]; rfl
  unfold okSt deadB runB failB
  rw [g0, g1, e1, e3]
  simp only [Bool.false_and, Bool.and_false, Bool.or_false, Bool.false_or, Bool.true_and]
  cases bareB S <;> cases inB S.p 0 4097 <;> cases decide (S.r ≤ 100) <;> rfl
theorem okSt_out {C : Co} {I : In} {v : Int} {S : St} (h : ¬ 0 ≤ S.r) (h' : ¬ S.r = -1) : okSt C I v S = false := by
  have e1 : (S.r == -1) = false := by simpa using h'
  have e2 : decide (0 ≤ S.r) = false := by simpa using h
  unfold okSt deadB runB failB
  rw [e1, show inB S.r 0 100 = false by unfold inB; rw [e2]; rfl]
  simp only [Bool.false_and, Bool.and_false, Bool.or_false]
theorem okSt_dead {C : Co} {I : In} {v : Int} {S : St} (g0 : ValC.okCo C = true) (g1 : tripB I v = true) (h : S.r = -1) (h' : S.p = -1) : okSt C I v S = bareB S := by
  have e1 : (S.r == -1) = true := by simpa using h
  have e2 : (S.p == -1) = true := by simpa using h'
  have e3 : inB S.p 0 4096 = false := by unfold inB; rw [h']; rfl
  have e4 : inB S.r 0 100 = false := by unfold inB; rw [h]; rfl
  unfold okSt deadB runB failB
  rw [g0, g1, e1, e2, e3, e4]
  simp only [Bool.false_and, Bool.and_false, Bool.or_false, Bool.true_and]
def placeB (I : In) (v : Int) (S : St) : Bool := if 0 < S.p then stopB I S.d else S.d == v
def restB (C : Co) (I : In) (v : Int) (S : St) : Bool :=
  inB S.p 0 4096 && placeB I v S && inB S.t 0 1000000000 && inB S.s 0 1000000000 && inB S.l (-1000000000) 1000000000 &&
    ((S.n1 : Int) == (I.nQ : Int)) && allIn S.n1 S.L1 0 2 && ((S.n2 : Int) == C.R) && allIn S.n2 S.L2 (-1000000000) 1000000000 && ((S.n3 : Int) == C.S * (I.nQ : Int)) && allIn S.n3 S.L3 (-1000000000) 1000000000
theorem okSt_run {C : Co} {I : In} {v : Int} {S : St} (g0 : ValC.okCo C = true) (g1 : tripB I v = true) (h : S.r = -1) (h' : ¬ S.p = -1) : okSt C I v S = restB C I v S := by
  have e1 : (S.r == -1) = true := by simpa using h
  have e2 : (S.p == -1) = false := by simpa using h'
  have e4 : inB S.r 0 100 = false := by unfold inB; rw [h]; rfl
  unfold okSt deadB failB runB restB
  rw [g0, g1, e1, e2, e4]
  simp only [Bool.false_and, Bool.and_false, Bool.or_false, Bool.false_or, Bool.true_and]
  cases hp : inB S.p 0 4096 with
  | false => simp only [Bool.false_and]
  | true =>
    have : standB I v S = placeB I v S := by
      simp [inB] at hp
      unfold standB placeB
      by_cases h0 : S.p = 0
      · rw [if_pos h0, if_neg (by omega)]
      · rw [if_neg h0, if_pos (by omega)]
    rw [this]
    unfold listB
    simp only [Bool.and_assoc]

set_option maxHeartbeats 8000000 in
set_option maxRecDepth 100000 in
theorem validStS (a1 a2 a3 b1 b2 b3 s1 s2 s3 : Option Addr) (c1 c2 c3 d1 d2 d3 t1 t2 t3 : Nat) (C : Co) (I : In) (v : Int) (S : St) (w : World) (hC : CoAt w a1 a2 a3 C) (hI : InAt w b1 b2 b3 I) (hS : StAt w s1 s2 s3 S) (k1 : C.n1 ≤ 1048576) (k2 : C.n2 ≤ 1048576) (k3 : C.n3 ≤ 1048576) (h1 : I.nV ≤ 1048576) (h2 : I.nQ ≤ 1048576) (h3 : I.nR ≤ 1048576) (m1 : S.n1 ≤ 1048576) (m2 : S.n2 ≤ 1048576) (m3 : S.n3 ≤ 1048576) :
    Calls Tryz.prog 64 #[.agg #[.int .i64 C.R, .int .i64 C.S, .slice a1 C.n1 c1, .slice a2 C.n2 c2, .slice a3 C.n3 c3], .agg #[.slice b1 I.nV d1, .slice b2 I.nQ d2, .slice b3 I.nR d3], .int .i64 v, .agg #[.int .i64 S.p, .int .i64 S.r, .int .i64 S.d, .int .i64 S.t, .int .i64 S.s, .int .i64 S.l, .slice s1 S.n1 t1, .slice s2 S.n2 t2, .slice s3 S.n3 t3]] w fun e w' => e = .returned (.bool (okSt C I v S)) ∧ Below w.heap.size w w' := by
  have HC := Hid.mk hC
  have HI := Hid.mk hI
  have HS := Hid.mk hS
  clear hC hI hS
  have hK : Below w.heap.size w (((w.alloc (.cells #[.int .i64 C.R, .int .i64 C.S, .slice a1 C.n1 c1, .slice a2 C.n2 c2, .slice a3 C.n3 c3] 38)).alloc (.cells #[.slice b1 I.nV d1, .slice b2 I.nQ d2, .slice b3 I.nR d3] 44)).alloc (.cells #[.int .i64 S.p, .int .i64 S.r, .int .i64 S.d, .int .i64 S.t, .int .i64 S.s, .int .i64 S.l, .slice s1 S.n1 t1, .slice s2 S.n2 t2, .slice s3 S.n3 t3] 34)) := by go_grown
  have HK := Hid.mk hK
  clear hK
  go_enter Tryz.func64, Tryz.ntmps64
  go_wp2_with fail
  refine (ValCS.validS a1 a2 a3 c1 c2 c3 C _ (HC.out.below HK.out) k1 k2 k3).mono ?_
  rintro e w1 ⟨rfl, hb⟩
  have HB1 := Hid.mk (below_then HK.out hb)
  have A0 := Hid.mk (blk_below (blk_alloc (blk_alloc (blk_new w _) _) _) hb)
  have A1 := Hid.mk (blk_below (blk_alloc (blk_new1 w _ _) _) hb)
  have A2 := Hid.mk (blk_below (blk_new2 w _ _ _) hb)
  clear hb HK
  cases g0 : ValC.okCo C with
  | false =>
    go_wp2
    go_ret
    exact ⟨ret_bool (by simp only [okSt, g0, Bool.false_and]), HB1.out⟩
  | true =>
    have x0 := blk_cell A1.out 0
    have x1 := blk_cell A1.out 1
    have x2 := blk_cell A1.out 2
    simp only [List.getElem?_toArray, List.getElem?_cons_zero, List.getElem?_cons_succ] at x0 x1 x2
    go_wp2_with fail
    clear x0 x1 x2
    refine (Valid.validS b1 b2 b3 d1 d2 d3 I _ (HI.out.below HB1.out) h1 h2 h3).mono ?_
    rintro e w2 ⟨rfl, hb⟩
    have HB2 := Hid.mk (below_then HB1.out hb)
    have B0 := Hid.mk (blk_below A0.out hb)
    have B1 := Hid.mk (blk_below A1.out hb)
    have B2 := Hid.mk (blk_below A2.out hb)
    clear hb HB1 A0 A1 A2
    cases g1 : validB I with
    | false =>
      go_wp2
      go_ret
      exact ⟨ret_bool (by simp only [okSt, tripB, g1, Bool.false_and, Bool.and_false]), HB2.out⟩
    | true =>
      obtain ⟨q1, q2, q3, q4⟩ := co_bd g0
      obtain ⟨r1, r2, r3⟩ := in_bd g1
      have x0 := blk_cell B1.out 0
      simp only [List.getElem?_toArray, List.getElem?_cons_zero, List.getElem?_cons_succ] at x0
      go_wp2_with fail
      clear x0
      refine (inS _ _ _ _).mono ?_
      rintro e w' ⟨rfl, rfl⟩
      cases g2 : inB v 0 ((I.nV : Int) - 1) with
      | false =>
        go_wp2
        go_ret
        exact ⟨ret_bool (by simp only [okSt, tripB, g2, Bool.false_and, Bool.and_false]), HB2.out⟩
      | true =>
        have gt : tripB I v = true := by unfold tripB; rw [g1, g2]; rfl
        have G0 := Hid.mk g0
        have GT := Hid.mk gt
        clear g0 g1 g2 gt
        by_cases g3 : 0 ≤ S.r
        · have hok := Hid.mk (okSt_fail G0.out GT.out g3)
          have g3' : decide (0 ≤ S.r) = true := by simpa using g3
          have x0 := blk_cell B2.out 0
          have x1 := blk_cell B2.out 1
          have x2 := blk_cell B2.out 2
          have x3 := blk_cell B2.out 3
          have x4 := blk_cell B2.out 4
          have x5 := blk_cell B2.out 5
          have x6 := blk_cell B2.out 6
          have x7 := blk_cell B2.out 7
          have x8 := blk_cell B2.out 8
          simp only [List.getElem?_toArray, List.getElem?_cons_zero, List.getElem?_cons_succ] at x0 x1 x2 x3 x4 x5 x6 x7 x8
          go_wp2_with fail
          clear x0 x1 x2 x3 x4 x5 x6 x7 x8
          refine (bareS s1 s2 s3 t1 t2 t3 S _).mono ?_
          rintro e w3 ⟨rfl, hb⟩
          have HB3 := Hid.mk (below_then HB2.out hb)
          have C2 := Hid.mk (blk_below B2.out hb)
          clear hb
          cases g4 : bareB S with
          | false =>
            go_wp2
            go_ret
            exact ⟨ret_bool (by rw [hok.out, g4]; rfl), HB3.out⟩
          | true =>
            have x0 := blk_cell C2.out 0
            have x1 := blk_cell C2.out 1
            simp only [List.getElem?_toArray, List.getElem?_cons_zero, List.getElem?_cons_succ] at x0 x1
            go_wp2_with fail
            refine (inS _ _ _ _).mono ?_
            rintro e w' ⟨rfl, rfl⟩
            cases g5 : inB S.p 0 4097 with
            | false =>
              go_wp2
              go_ret
              exact ⟨ret_bool (by rw [hok.out, g4, g5]; rfl), HB3.out⟩
            | true =>
              go_wp2
              go_ret
              exact ⟨ret_bool (by rw [hok.out, g4, g5]; rfl), HB3.out⟩
        have g3' : decide (0 ≤ S.r) = false := by simpa using g3
        by_cases g4 : ¬ S.r = -1
        · have hok := Hid.mk (okSt_out (C := C) (I := I) (v := v) g3 g4)
          have g4' : (S.r == -1) = false := by simpa using g4
          have g4'' : (S.r != -1) = true := by simpa using g4
          have x1 := blk_cell B2.out 1
          simp only [List.getElem?_toArray, List.getElem?_cons_zero, List.getElem?_cons_succ] at x1
          go_wp2
          go_ret
          exact ⟨ret_bool hok.out.symm, HB2.out⟩
        have g4 := Decidable.not_not.1 g4
        have g4' : (S.r == -1) = true := by simpa using g4
        have g4'' : (S.r != -1) = false := by simpa using g4
        by_cases g5 : S.p = -1
        · have hok := Hid.mk (okSt_dead G0.out GT.out g4 g5)
          have g5' : (S.p == -1) = true := by simpa using g5
          clear g4 g5 g3
          have x0 := blk_cell B2.out 0
          have x1 := blk_cell B2.out 1
          have x2 := blk_cell B2.out 2
          have x3 := blk_cell B2.out 3
          have x4 := blk_cell B2.out 4
          have x5 := blk_cell B2.out 5
          have x6 := blk_cell B2.out 6
          have x7 := blk_cell B2.out 7
          have x8 := blk_cell B2.out 8
          simp only [List.getElem?_toArray, List.getElem?_cons_zero, List.getElem?_cons_succ] at x0 x1 x2 x3 x4 x5 x6 x7 x8
          go_wp2_with fail
          clear x0 x1 x2 x3 x4 x5 x6 x7 x8
          refine (bareS s1 s2 s3 t1 t2 t3 S _).mono ?_
          rintro e w3 ⟨rfl, hb⟩
          have HB3 := Hid.mk (below_then HB2.out hb)
          clear hb
          go_wp2
          go_ret
          exact ⟨ret_bool hok.out.symm, HB3.out⟩
        have hok := Hid.mk (okSt_run G0.out GT.out g4 g5)
        have g5' : (S.p == -1) = false := by simpa using g5
        clear g4 g5 g3
        have hmw := mul_wrap q3 q4 r2
        have hmb := mul_bd q3 q4 r2
        by_cases g6 : 0 < S.p
        · have hpe : Hid (placeB I v S = stopB I S.d) := by unfold Hid placeB; rw [if_pos g6]
          have g6' : decide (0 < S.p) = true := by simpa using g6
          have x0 := blk_cell B2.out 0
          have x1 := blk_cell B2.out 1
          have x2 := blk_cell B2.out 2
          have y0 := blk_cell B1.out 0
          have y1 := blk_cell B1.out 1
          have y2 := blk_cell B1.out 2
          simp only [List.getElem?_toArray, List.getElem?_cons_zero, List.getElem?_cons_succ] at x0 x1 x2 y0 y1 y2
          go_wp2_with fail
          clear x0 x1 x2 y0 y1 y2
          refine (stopS b1 b2 b3 d1 d2 d3 I S.d _ (by omega) (by omega)).mono ?_
          rintro e w3 ⟨rfl, hb⟩
          have HB3 := Hid.mk (below_then HB2.out hb)
          have B0' := Hid.mk (blk_below B0.out hb)
          have B2' := Hid.mk (blk_below B2.out hb)
          clear HB2 B0 B1 B2 hb
          have HB2 := HB3
          have B0 := B0'
          have B2 := B2'
          clear HB3 B0' B2'
          have x := blk_cell B2.out 0
          simp only [List.getElem?_toArray, List.getElem?_cons_zero, List.getElem?_cons_succ] at x
          go_wp2_with fail
          clear x
          refine (inS _ _ _ _).mono ?_
          rintro e w' ⟨rfl, rfl⟩
          cases f1 : inB S.p 0 4096 with
          | false =>
            go_wp2
            go_ret
            exact ⟨ret_bool (by rw [hok.out]; simp only [restB, f1, Bool.false_and]), HB2.out⟩
          | true =>
            cases f2 : stopB I S.d with
            | false =>
              have f2' : placeB I v S = false := hpe.out.trans f2
              go_wp2
              go_ret
              exact ⟨ret_bool (by rw [hok.out]; simp only [restB, f2', Bool.false_and, Bool.and_false]), HB2.out⟩
            | true =>
              have f2' : Hid (placeB I v S = true) := hpe.out.trans f2
              have x := blk_cell B2.out 3
              simp only [List.getElem?_toArray, List.getElem?_cons_zero, List.getElem?_cons_succ] at x
              go_wp2_with fail
              clear x
              refine (inS _ _ _ _).mono ?_
              rintro e w' ⟨rfl, rfl⟩
              cases f3 : inB S.t 0 1000000000 with
              | false =>
                go_wp2
                go_ret
                exact ⟨ret_bool (by rw [hok.out]; simp only [restB, f3, Bool.false_and, Bool.and_false]), HB2.out⟩
              | true =>
                have x := blk_cell B2.out 4
                simp only [List.getElem?_toArray, List.getElem?_cons_zero, List.getElem?_cons_succ] at x
                go_wp2_with fail
                clear x
                refine (inS _ _ _ _).mono ?_
                rintro e w' ⟨rfl, rfl⟩
                cases f4 : inB S.s 0 1000000000 with
                | false =>
                  go_wp2
                  go_ret
                  exact ⟨ret_bool (by rw [hok.out]; simp only [restB, f4, Bool.false_and, Bool.and_false]), HB2.out⟩
                | true =>
                  have x := blk_cell B2.out 5
                  simp only [List.getElem?_toArray, List.getElem?_cons_zero, List.getElem?_cons_succ] at x
                  go_wp2_with fail
                  clear x
                  refine (inS _ _ _ _).mono ?_
                  rintro e w' ⟨rfl, rfl⟩
                  cases f5 : inB S.l (-1000000000) 1000000000 with
                  | false =>
                    go_wp2
                    go_ret
                    exact ⟨ret_bool (by rw [hok.out]; simp only [restB, f5, Bool.false_and, Bool.and_false]), HB2.out⟩
                  | true =>
                    have x := blk_cell B2.out 6
                    simp only [List.getElem?_toArray, List.getElem?_cons_zero, List.getElem?_cons_succ] at x
                    cases f6 : ((S.n1 : Int) == (I.nQ : Int)) with
                    | false =>
                      go_wp2
                      go_ret
                      exact ⟨ret_bool (by rw [hok.out]; simp only [restB, f6, Bool.false_and, Bool.and_false]), HB2.out⟩
                    | true =>
                      go_wp2_with fail
                      clear x
                      refine (allS _ _ _ S.L1 _ _ _ (HS.out.s1.below HB2.out) m1).mono ?_
                      rintro e w4 ⟨rfl, hb⟩
                      have HB3 := Hid.mk (below_then HB2.out hb)
                      have B0' := Hid.mk (blk_below B0.out hb)
                      have B2' := Hid.mk (blk_below B2.out hb)
                      clear HB2 B0 B2 hb
                      have HB2 := HB3
                      have B0 := B0'
                      have B2 := B2'
                      clear HB3 B0' B2'
                      cases f7 : allIn S.n1 S.L1 0 2 with
                      | false =>
                        go_wp2
                        go_ret
                        exact ⟨ret_bool (by rw [hok.out]; simp only [restB, f7, Bool.false_and, Bool.and_false]), HB2.out⟩
                      | true =>
                        have x := blk_cell B2.out 7
                        have y := blk_cell B0.out 0
                        simp only [List.getElem?_toArray, List.getElem?_cons_zero, List.getElem?_cons_succ] at x y
                        cases f8 : ((S.n2 : Int) == C.R) with
                        | false =>
                          go_wp2
                          go_ret
                          exact ⟨ret_bool (by rw [hok.out]; simp only [restB, f8, Bool.false_and, Bool.and_false]), HB2.out⟩
                        | true =>
                          go_wp2_with fail
                          clear x y
                          refine (allS _ _ _ S.L2 _ _ _ (HS.out.s2.below HB2.out) m2).mono ?_
                          rintro e w5 ⟨rfl, hb⟩
                          have HB3 := Hid.mk (below_then HB2.out hb)
                          have B0' := Hid.mk (blk_below B0.out hb)
                          have B2' := Hid.mk (blk_below B2.out hb)
                          clear HB2 B0 B2 hb
                          have HB2 := HB3
                          have B0 := B0'
                          have B2 := B2'
                          clear HB3 B0' B2'
                          cases f9 : allIn S.n2 S.L2 (-1000000000) 1000000000 with
                          | false =>
                            go_wp2
                            go_ret
                            exact ⟨ret_bool (by rw [hok.out]; simp only [restB, f9, Bool.false_and, Bool.and_false]), HB2.out⟩
                          | true =>
                            have x := blk_cell B2.out 8
                            have y := blk_cell B0.out 1
                            simp only [List.getElem?_toArray, List.getElem?_cons_zero, List.getElem?_cons_succ] at x y
                            cases f10 : ((S.n3 : Int) == C.S * (I.nQ : Int)) with
                            | false =>
                              go_wp2
                              go_ret
                              exact ⟨ret_bool (by rw [hok.out]; simp only [restB, f10, Bool.false_and, Bool.and_false]), HB2.out⟩
                            | true =>
                              go_wp2_with fail
                              clear x y
                              refine (allS _ _ _ S.L3 _ _ _ (HS.out.s3.below HB2.out) m3).mono ?_
                              rintro e w6 ⟨rfl, hb⟩
                              have HB3 := Hid.mk (below_then HB2.out hb)
                              have B0' := Hid.mk (blk_below B0.out hb)
                              have B2' := Hid.mk (blk_below B2.out hb)
                              clear HB2 B0 B2 hb
                              have HB2 := HB3
                              have B0 := B0'
                              have B2 := B2'
                              clear HB3 B0' B2'
                              go_wp2
                              go_ret
                              exact ⟨ret_bool (by rw [hok.out]; simp only [restB, f1, f2'.out, f3, f4, f5, f6, f7, f8, f9, f10, Bool.true_and]), HB2.out⟩
        · have hpe : Hid (placeB I v S = (S.d == v)) := by unfold Hid placeB; rw [if_neg g6]
          have g6' : decide (0 < S.p) = false := by simpa using g6
          have x0 := blk_cell B2.out 0
          have x1 := blk_cell B2.out 1
          have x2 := blk_cell B2.out 2
          have y0 := blk_cell B1.out 0
          have y1 := blk_cell B1.out 1
          have y2 := blk_cell B1.out 2
          simp only [List.getElem?_toArray, List.getElem?_cons_zero, List.getElem?_cons_succ] at x0 x1 x2 y0 y1 y2
          go_wp2_with fail
          clear x0 x1 x2 y0 y1 y2
          refine (inS _ _ _ _).mono ?_
          rintro e w' ⟨rfl, rfl⟩
          cases f1 : inB S.p 0 4096 with
          | false =>
            go_wp2
            go_ret
            exact ⟨ret_bool (by rw [hok.out]; simp only [restB, f1, Bool.false_and]), HB2.out⟩
          | true =>
            cases f2 : (S.d == v) with
            | false =>
              have f2' : placeB I v S = false := hpe.out.trans f2
              go_wp2
              go_ret
              exact ⟨ret_bool (by rw [hok.out]; simp only [restB, f2', Bool.false_and, Bool.and_false]), HB2.out⟩
            | true =>
              have f2' : Hid (placeB I v S = true) := hpe.out.trans f2
              have x := blk_cell B2.out 3
              simp only [List.getElem?_toArray, List.getElem?_cons_zero, List.getElem?_cons_succ] at x
              go_wp2_with fail
              clear x
              refine (inS _ _ _ _).mono ?_
              rintro e w' ⟨rfl, rfl⟩
              cases f3 : inB S.t 0 1000000000 with
              | false =>
                go_wp2
                go_ret
                exact ⟨ret_bool (by rw [hok.out]; simp only [restB, f3, Bool.false_and, Bool.and_false]), HB2.out⟩
              | true =>
                have x := blk_cell B2.out 4
                simp only [List.getElem?_toArray, List.getElem?_cons_zero, List.getElem?_cons_succ] at x
                go_wp2_with fail
                clear x
                refine (inS _ _ _ _).mono ?_
                rintro e w' ⟨rfl, rfl⟩
                cases f4 : inB S.s 0 1000000000 with
                | false =>
                  go_wp2
                  go_ret
                  exact ⟨ret_bool (by rw [hok.out]; simp only [restB, f4, Bool.false_and, Bool.and_false]), HB2.out⟩
                | true =>
                  have x := blk_cell B2.out 5
                  simp only [List.getElem?_toArray, List.getElem?_cons_zero, List.getElem?_cons_succ] at x
                  go_wp2_with fail
                  clear x
                  refine (inS _ _ _ _).mono ?_
                  rintro e w' ⟨rfl, rfl⟩
                  cases f5 : inB S.l (-1000000000) 1000000000 with
                  | false =>
                    go_wp2
                    go_ret
                    exact ⟨ret_bool (by rw [hok.out]; simp only [restB, f5, Bool.false_and, Bool.and_false]), HB2.out⟩
                  | true =>
                    have x := blk_cell B2.out 6
                    simp only [List.getElem?_toArray, List.getElem?_cons_zero, List.getElem?_cons_succ] at x
                    cases f6 : ((S.n1 : Int) == (I.nQ : Int)) with
                    | false =>
                      go_wp2
                      go_ret
                      exact ⟨ret_bool (by rw [hok.out]; simp only [restB, f6, Bool.false_and, Bool.and_false]), HB2.out⟩
                    | true =>
                      go_wp2_with fail
                      clear x
                      refine (allS _ _ _ S.L1 _ _ _ (HS.out.s1.below HB2.out) m1).mono ?_
                      rintro e w4 ⟨rfl, hb⟩
                      have HB3 := Hid.mk (below_then HB2.out hb)
                      have B0' := Hid.mk (blk_below B0.out hb)
                      have B2' := Hid.mk (blk_below B2.out hb)
                      clear HB2 B0 B2 hb
                      have HB2 := HB3
                      have B0 := B0'
                      have B2 := B2'
                      clear HB3 B0' B2'
                      cases f7 : allIn S.n1 S.L1 0 2 with
                      | false =>
                        go_wp2
                        go_ret
                        exact ⟨ret_bool (by rw [hok.out]; simp only [restB, f7, Bool.false_and, Bool.and_false]), HB2.out⟩
                      | true =>
                        have x := blk_cell B2.out 7
                        have y := blk_cell B0.out 0
                        simp only [List.getElem?_toArray, List.getElem?_cons_zero, List.getElem?_cons_succ] at x y
                        cases f8 : ((S.n2 : Int) == C.R) with
                        | false =>
                          go_wp2
                          go_ret
                          exact ⟨ret_bool (by rw [hok.out]; simp only [restB, f8, Bool.false_and, Bool.and_false]), HB2.out⟩
                        | true =>
                          go_wp2_with fail
                          clear x y
                          refine (allS _ _ _ S.L2 _ _ _ (HS.out.s2.below HB2.out) m2).mono ?_
                          rintro e w5 ⟨rfl, hb⟩
                          have HB3 := Hid.mk (below_then HB2.out hb)
                          have B0' := Hid.mk (blk_below B0.out hb)
                          have B2' := Hid.mk (blk_below B2.out hb)
                          clear HB2 B0 B2 hb
                          have HB2 := HB3
                          have B0 := B0'
                          have B2 := B2'
                          clear HB3 B0' B2'
                          cases f9 : allIn S.n2 S.L2 (-1000000000) 1000000000 with
                          | false =>
                            go_wp2
                            go_ret
                            exact ⟨ret_bool (by rw [hok.out]; simp only [restB, f9, Bool.false_and, Bool.and_false]), HB2.out⟩
                          | true =>
                            have x := blk_cell B2.out 8
                            have y := blk_cell B0.out 1
                            simp only [List.getElem?_toArray, List.getElem?_cons_zero, List.getElem?_cons_succ] at x y
                            cases f10 : ((S.n3 : Int) == C.S * (I.nQ : Int)) with
                            | false =>
                              go_wp2
                              go_ret
                              exact ⟨ret_bool (by rw [hok.out]; simp only [restB, f10, Bool.false_and, Bool.and_false]), HB2.out⟩
                            | true =>
                              go_wp2_with fail
                              clear x y
                              refine (allS _ _ _ S.L3 _ _ _ (HS.out.s3.below HB2.out) m3).mono ?_
                              rintro e w6 ⟨rfl, hb⟩
                              have HB3 := Hid.mk (below_then HB2.out hb)
                              have B0' := Hid.mk (blk_below B0.out hb)
                              have B2' := Hid.mk (blk_below B2.out hb)
                              clear HB2 B0 B2 hb
                              have HB2 := HB3
                              have B0 := B0'
                              have B2 := B2'
                              clear HB3 B0' B2'
                              go_wp2
                              go_ret
                              exact ⟨ret_bool (by rw [hok.out]; simp only [restB, f1, f2'.out, f3, f4, f5, f6, f7, f8, f9, f10, Bool.true_and]), HB2.out⟩
end Go.Proofs.YtgooegcmgejfpaaGreatDoor.StV
