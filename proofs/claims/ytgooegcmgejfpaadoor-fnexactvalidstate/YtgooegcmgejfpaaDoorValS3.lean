import Derived.Test.YtgooegcmgejfpaaDoorValS2
namespace Go.Proofs.YtgooegcmgejfpaaDoor.StV
open Go Go.RowKit Go.Proofs.YtgooegcmgejfpaaDoor.Mem
open Go.Proofs.YtgooegcmgejfpaaDoor.Valid (inB ret_bool nodes validB inI inS nodes_bd nodesI nodesS)
set_option linter.unusedVariables false
set_option linter.unusedSimpArgs false
attribute [local go_sem ↓] Go.wp_at_zero Go.wp_at_succ

set_option maxHeartbeats 4000000 in
set_option maxRecDepth 100000 in
theorem runI (a1 a2 a3 b1 b2 b3 s1 s2 s3 : Option Addr) (c1 c2 c3 d1 d2 d3 t1 t2 t3 : Nat) (C : Co) (I : In) (v : Int) (S : St) (w : World) (hS : StAt w s1 s2 s3 S) (hR0 : 13 ≤ C.R) (hR1 : C.R ≤ 1000) (hS0 : 0 ≤ C.S) (hS1 : C.S ≤ 100) (hV : I.nV ≤ 64) (hQ : I.nQ ≤ 1000) (m1 : S.n1 ≤ 1048576) (m2 : S.n2 ≤ 1048576) (m3 : S.n3 ≤ 1048576) :
    Calls Tryd.prog 35 #[.agg #[.int .i64 C.R, .int .i64 C.S, .slice a1 C.n1 c1, .slice a2 C.n2 c2, .slice a3 C.n3 c3], .agg #[.slice b1 I.nV d1, .slice b2 I.nQ d2, .slice b3 I.nR d3], .int .i64 v, .agg #[.int .i64 S.p, .int .i64 S.r, .int .i64 S.d, .int .i64 S.t, .int .i64 S.s, .int .i64 S.l, .slice s1 S.n1 t1, .slice s2 S.n2 t2, .slice s3 S.n3 t3]] w fun e w' => e = .returned (.bool (runB C I v S)) ∧ Below w.heap.size w w' := by
  have HS := Hid.mk hS
  clear hS
  have hmw := mul_wrap hS0 hS1 hQ
  have hmb := mul_bd hS0 hS1 hQ
  have hw4 : C.S * (I.nQ : Int) = C.S * (I.nQ : Int) := rfl
  clear hw4
  cases g0 : (S.r == -1) with
  | false =>
    go_enter Tryd.func35, Tryd.ntmps35
    go_wp2
    go_ret
    exact ⟨ret_bool (by simp only [runB, g0, Bool.false_and, Bool.and_false]), by go_grown⟩
  | true =>
    go_enter Tryd.func35, Tryd.ntmps35
    go_wp2_with fail
    refine (inI _ _ _ _).mono ?_
    rintro e w' ⟨rfl, rfl⟩
    cases g1 : inB S.p 0 4096 with
    | false =>
      go_wp2
      go_ret
      exact ⟨ret_bool (by simp only [runB, g1, Bool.false_and, Bool.and_false]), by go_grown⟩
    | true =>
      go_wp2_with fail
      refine (standI b1 b2 b3 s1 s2 s3 d1 d2 d3 t1 t2 t3 I v S _ (by omega) (by omega)).mono ?_
      rintro e w1 ⟨rfl, hb⟩
      have HB1 := Hid.mk (below_then (w := w) (by go_grown) hb)
      have A0 := Hid.mk (blk_below (blk_alloc (blk_alloc (blk_new w _) _) _) hb)
      have A2 := Hid.mk (blk_below (blk_new2 w _ _ _) hb)
      clear hb
      cases g2 : standB I v S with
      | false =>
        go_wp2
        go_ret
        exact ⟨ret_bool (by simp only [runB, g2, Bool.false_and, Bool.and_false]), HB1.out⟩
      | true =>
        have x := blk_cell A2.out 3
        simp only [List.getElem?_toArray, List.getElem?_cons_zero, List.getElem?_cons_succ] at x
        go_wp2_with fail
        clear x
        refine (inI _ _ _ _).mono ?_
        rintro e w' ⟨rfl, rfl⟩
        cases g3 : inB S.t 0 1000000000 with
        | false =>
          go_wp2
          go_ret
          exact ⟨ret_bool (by simp only [runB, g3, Bool.false_and, Bool.and_false]), HB1.out⟩
        | true =>
          have x := blk_cell A2.out 4
          simp only [List.getElem?_toArray, List.getElem?_cons_zero, List.getElem?_cons_succ] at x
          go_wp2_with fail
          clear x
          refine (inI _ _ _ _).mono ?_
          rintro e w' ⟨rfl, rfl⟩
          cases g4 : inB S.s 0 1000000000 with
          | false =>
            go_wp2
            go_ret
            exact ⟨ret_bool (by simp only [runB, g4, Bool.false_and, Bool.and_false]), HB1.out⟩
          | true =>
            have x := blk_cell A2.out 5
            simp only [List.getElem?_toArray, List.getElem?_cons_zero, List.getElem?_cons_succ] at x
            go_wp2_with fail
            clear x
            refine (inI _ _ _ _).mono ?_
            rintro e w' ⟨rfl, rfl⟩
            cases g5 : inB S.l (-1000000000) 1000000000 with
            | false =>
              go_wp2
              go_ret
              exact ⟨ret_bool (by simp only [runB, g5, Bool.false_and, Bool.and_false]), HB1.out⟩
            | true =>
              have x := blk_cell A2.out 6
              simp only [List.getElem?_toArray, List.getElem?_cons_zero, List.getElem?_cons_succ] at x
              go_wp2_with fail
              clear x
              refine (listI _ _ _ S.L1 _ _ _ _ (HS.out.s1.below HB1.out) m1).mono ?_
              rintro e w2 ⟨rfl, hb⟩
              have HB2 := Hid.mk (below_then HB1.out hb)
              have A0' := Hid.mk (blk_below A0.out hb)
              have A2' := Hid.mk (blk_below A2.out hb)
              clear HB1 A0 A2 hb
              have HB1 := HB2
              have A0 := A0'
              have A2 := A2'
              clear HB2 A0' A2'
              cases g6 : listB S.n1 S.L1 (I.nQ : Int) 0 2 with
              | false =>
                go_wp2
                go_ret
                exact ⟨ret_bool (by simp only [runB, g6, Bool.false_and, Bool.and_false]), HB1.out⟩
              | true =>
                have x := blk_cell A2.out 7
                have y := blk_cell A0.out 0
                simp only [List.getElem?_toArray, List.getElem?_cons_zero, List.getElem?_cons_succ] at x y
                go_wp2_with fail
                clear x y
                refine (listI _ _ _ S.L2 _ _ _ _ (HS.out.s2.below HB1.out) m2).mono ?_
                rintro e w3 ⟨rfl, hb⟩
                have HB2 := Hid.mk (below_then HB1.out hb)
                have A0' := Hid.mk (blk_below A0.out hb)
                have A2' := Hid.mk (blk_below A2.out hb)
                clear HB1 A0 A2 hb
                have HB1 := HB2
                have A0 := A0'
                have A2 := A2'
                clear HB2 A0' A2'
                cases g7 : listB S.n2 S.L2 C.R (-1000000000) 1000000000 with
                | false =>
                  go_wp2
                  go_ret
                  exact ⟨ret_bool (by simp only [runB, g7, Bool.false_and, Bool.and_false]), HB1.out⟩
                | true =>
                  have x := blk_cell A2.out 8
                  have y := blk_cell A0.out 1
                  simp only [List.getElem?_toArray, List.getElem?_cons_zero, List.getElem?_cons_succ] at x y
                  go_wp2_with fail
                  clear x y
                  refine (listI _ _ _ S.L3 _ _ _ _ (HS.out.s3.below HB1.out) m3).mono ?_
                  rintro e w4 ⟨rfl, hb⟩
                  have HB2 := Hid.mk (below_then HB1.out hb)
                  have A0' := Hid.mk (blk_below A0.out hb)
                  have A2' := Hid.mk (blk_below A2.out hb)
                  clear HB1 A0 A2 hb
                  have HB1 := HB2
                  have A0 := A0'
                  have A2 := A2'
                  clear HB2 A0' A2'
                  go_wp2
                  go_ret
                  exact ⟨ret_bool (by simp only [runB, g0, g1, g2, g3, g4, g5, g6, g7, Bool.true_and]), HB1.out⟩

set_option maxHeartbeats 4000000 in
set_option maxRecDepth 100000 in
theorem validStI (a1 a2 a3 b1 b2 b3 s1 s2 s3 : Option Addr) (c1 c2 c3 d1 d2 d3 t1 t2 t3 : Nat) (C : Co) (I : In) (v : Int) (S : St) (w : World) (hC : CoAt w a1 a2 a3 C) (hI : InAt w b1 b2 b3 I) (hS : StAt w s1 s2 s3 S) (k1 : C.n1 ≤ 1048576) (k2 : C.n2 ≤ 1048576) (k3 : C.n3 ≤ 1048576) (h1 : I.nV ≤ 1048576) (h2 : I.nQ ≤ 1048576) (h3 : I.nR ≤ 1048576) (m1 : S.n1 ≤ 1048576) (m2 : S.n2 ≤ 1048576) (m3 : S.n3 ≤ 1048576) (hT : ValC.TabC w) :
    Calls Tryd.prog 11 #[.agg #[.int .i64 C.R, .int .i64 C.S, .slice a1 C.n1 c1, .slice a2 C.n2 c2, .slice a3 C.n3 c3], .agg #[.slice b1 I.nV d1, .slice b2 I.nQ d2, .slice b3 I.nR d3], .int .i64 v, .agg #[.int .i64 S.p, .int .i64 S.r, .int .i64 S.d, .int .i64 S.t, .int .i64 S.s, .int .i64 S.l, .slice s1 S.n1 t1, .slice s2 S.n2 t2, .slice s3 S.n3 t3]] w fun e w' => e = .returned (.bool (okSt C I v S)) ∧ Below w.heap.size w w' := by
  have HC := Hid.mk hC
  have HI := Hid.mk hI
  have HS := Hid.mk hS
  have HT := Hid.mk hT
  clear hC hI hS hT
  have hK : Below w.heap.size w (((w.alloc (.cells #[.int .i64 C.R, .int .i64 C.S, .slice a1 C.n1 c1, .slice a2 C.n2 c2, .slice a3 C.n3 c3] 39)).alloc (.cells #[.slice b1 I.nV d1, .slice b2 I.nQ d2, .slice b3 I.nR d3] 45)).alloc (.cells #[.int .i64 S.p, .int .i64 S.r, .int .i64 S.d, .int .i64 S.t, .int .i64 S.s, .int .i64 S.l, .slice s1 S.n1 t1, .slice s2 S.n2 t2, .slice s3 S.n3 t3] 47)) := by go_grown
  have HK := Hid.mk hK
  clear hK
  go_enter Tryd.func11, Tryd.ntmps11
  go_wp2_with fail
  refine (ValC.validI a1 a2 a3 c1 c2 c3 C _ (HC.out.below HK.out) k1 k2 k3 (HT.out.below HK.out)).mono ?_
  rintro e w1 ⟨rfl, hb⟩
  have HB1 := Hid.mk (below_then HK.out hb)
  have A0 := Hid.mk (blk_below (blk_alloc (blk_alloc (blk_new w _) _) _) hb)
  have A1 := Hid.mk (blk_below (blk_alloc (blk_new1 w _ _) _) hb)
  have A2 := Hid.mk (blk_below (blk_new2 w _ _ _) hb)
  clear hb HK
  cases g0 : ValC.okCo C with
  | false =>
    go_wp2
    go_ret
    exact ⟨ret_bool (by simp only [okSt, g0, Bool.false_and]), HB1.out⟩
  | true =>
    have x0 := blk_cell A1.out 0
    have x1 := blk_cell A1.out 1
    have x2 := blk_cell A1.out 2
    simp only [List.getElem?_toArray, List.getElem?_cons_zero, List.getElem?_cons_succ] at x0 x1 x2
    go_wp2_with fail
    clear x0 x1 x2
    refine (tripI b1 b2 b3 d1 d2 d3 I v _ (HI.out.below HB1.out) h1 h2 h3).mono ?_
    rintro e w2 ⟨rfl, hb⟩
    have HB2 := Hid.mk (below_then HB1.out hb)
    have B0 := Hid.mk (blk_below A0.out hb)
    have B1 := Hid.mk (blk_below A1.out hb)
    have B2 := Hid.mk (blk_below A2.out hb)
    clear hb HB1 A0 A1 A2
    cases g1 : tripB I v with
    | false =>
      go_wp2
      go_ret
      exact ⟨ret_bool (by simp only [okSt, g1, Bool.false_and, Bool.and_false]), HB2.out⟩
    | true =>
      have hok : Hid (okSt C I v S = (deadB S || failB S || runB C I v S)) := by unfold Hid okSt; rw [g0, g1]; rfl
      obtain ⟨q1, q2, q3, q4⟩ := co_bd g0
      obtain ⟨r1, r2, r3⟩ := in_bd (show validB I = true by simp [tripB] at g1; exact g1.2)
      have x0 := blk_cell B2.out 0
      have x1 := blk_cell B2.out 1
      have x2 := blk_cell B2.out 2
      have x3 := blk_cell B2.out 3
      have x4 := blk_cell B2.out 4
      have x5 := blk_cell B2.out 5
      have x6 := blk_cell B2.out 6
      have x7 := blk_cell B2.out 7
      have x8 := blk_cell B2.out 8
      simp only [List.getElem?_toArray, List.getElem?_cons_zero, List.getElem?_cons_succ] at x0 x1 x2 x3 x4 x5 x6 x7 x8
      go_wp2_with fail
      clear x0 x1 x2 x3 x4 x5 x6 x7 x8
      refine (deadI s1 s2 s3 t1 t2 t3 S _).mono ?_
      rintro e w3 ⟨rfl, hb⟩
      have HB3 := Hid.mk (below_then HB2.out hb)
      have C0 := Hid.mk (blk_below B0.out hb)
      have C1 := Hid.mk (blk_below B1.out hb)
      have C2 := Hid.mk (blk_below B2.out hb)
      clear hb HB2 B0 B1 B2
      cases g2 : deadB S with
      | true =>
        go_wp2
        go_ret
        exact ⟨ret_bool (by rw [hok.out, g2]; rfl), HB3.out⟩
      | false =>
        have x0 := blk_cell C2.out 0
        have x1 := blk_cell C2.out 1
        have x2 := blk_cell C2.out 2
        have x3 := blk_cell C2.out 3
        have x4 := blk_cell C2.out 4
        have x5 := blk_cell C2.out 5
        have x6 := blk_cell C2.out 6
        have x7 := blk_cell C2.out 7
        have x8 := blk_cell C2.out 8
        simp only [List.getElem?_toArray, List.getElem?_cons_zero, List.getElem?_cons_succ] at x0 x1 x2 x3 x4 x5 x6 x7 x8
        go_wp2_with fail
        clear x0 x1 x2 x3 x4 x5 x6 x7 x8
        refine (failI s1 s2 s3 t1 t2 t3 S _).mono ?_
        rintro e w4 ⟨rfl, hb⟩
        have HB4 := Hid.mk (below_then HB3.out hb)
        have D0 := Hid.mk (blk_below C0.out hb)
        have D1 := Hid.mk (blk_below C1.out hb)
        have D2 := Hid.mk (blk_below C2.out hb)
        clear hb HB3 C0 C1 C2
        cases g3 : failB S with
        | true =>
          go_wp2
          go_ret
          exact ⟨ret_bool (by rw [hok.out, g2, g3]; rfl), HB4.out⟩
        | false =>
          have x0 := blk_cell D2.out 0
          have x1 := blk_cell D2.out 1
          have x2 := blk_cell D2.out 2
          have x3 := blk_cell D2.out 3
          have x4 := blk_cell D2.out 4
          have x5 := blk_cell D2.out 5
          have x6 := blk_cell D2.out 6
          have x7 := blk_cell D2.out 7
          have x8 := blk_cell D2.out 8
          have y0 := blk_cell D1.out 0
          have y1 := blk_cell D1.out 1
          have y2 := blk_cell D1.out 2
          have z0 := blk_cell D0.out 0
          have z1 := blk_cell D0.out 1
          have z2 := blk_cell D0.out 2
          have z3 := blk_cell D0.out 3
          have z4 := blk_cell D0.out 4
          simp only [List.getElem?_toArray, List.getElem?_cons_zero, List.getElem?_cons_succ] at x0 x1 x2 x3 x4 x5 x6 x7 x8 y0 y1 y2 z0 z1 z2 z3 z4
          go_wp2_with fail
          clear x0 x1 x2 x3 x4 x5 x6 x7 x8 y0 y1 y2 z0 z1 z2 z3 z4
          refine (runI a1 a2 a3 b1 b2 b3 s1 s2 s3 c1 c2 c3 d1 d2 d3 t1 t2 t3 C I v S _ (HS.out.below HB4.out) q1 q2 q3 q4 r1 r2 m1 m2 m3).mono ?_
          rintro e w5 ⟨rfl, hb⟩
          have HB5 := Hid.mk (below_then HB4.out hb)
          clear hb
          go_wp2
          go_ret
          exact ⟨ret_bool (by rw [hok.out, g2, g3]; rfl), HB5.out⟩
end Go.Proofs.YtgooegcmgejfpaaDoor.StV
