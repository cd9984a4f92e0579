import Derived.Test.YtgooegcmgejfpaaDoorValS3
import Derived.Test.YtgooegcmgejfpaaDoorValS4
import Derived.Test.YtgooegcmgejfpaaDoorCopyC2
import Derived.Test.YtgooegcmgejfpaaDoorCopy
import Derived.Test.YtgooegcmgejfpaaDoorCopyS
import Derived.Test.YtgooegcmgejfpaaDoorEqC
import Derived.Test.YtgooegcmgejfpaaDoorEqI
import Derived.Test.YtgooegcmgejfpaaDoorEqS
import Derived.Deep.DrawnRows
namespace Go.Proofs.YtgooegcmgejfpaaDoor.LawValS
open Go Go.RowKit Go.Sort Go.Proofs.YtgooegcmgejfpaaDoor.Mem
set_option linter.unusedVariables false
set_option linter.unusedSimpArgs false
attribute [local go_sem ↓] Go.wp_at_zero Go.wp_at_succ

set_option maxHeartbeats 16000000 in
set_option maxRecDepth 100000 in
theorem law (a1 a2 a3 b1 b2 b3 s1 s2 s3 : Option Addr) (c1 c2 c3 d1 d2 d3 t1 t2 t3 : Nat) (C : Co) (I : In) (v : Int) (S : St) (w : World) (hC : CoAt w a1 a2 a3 C) (hI : InAt w b1 b2 b3 I) (hS : StAt w s1 s2 s3 S) (h1 : C.n1 ≤ 9223372036854775807) (h2 : C.n2 ≤ 9223372036854775807) (h3 : C.n3 ≤ 9223372036854775807) (h4 : I.nV ≤ 9223372036854775807) (h5 : I.nQ ≤ 9223372036854775807) (h6 : I.nR ≤ 9223372036854775807) (h7 : S.n1 ≤ 9223372036854775807) (h8 : S.n2 ≤ 9223372036854775807) (h9 : S.n3 ≤ 9223372036854775807) (hT : ValC.TabC w) :
    Calls Tryd.prog 3 #[.agg #[.int .i64 C.R, .int .i64 C.S, .slice a1 C.n1 c1, .slice a2 C.n2 c2, .slice a3 C.n3 c3], .agg #[.slice b1 I.nV d1, .slice b2 I.nQ d2, .slice b3 I.nR d3], .int .i64 v, .agg #[.int .i64 S.p, .int .i64 S.r, .int .i64 S.d, .int .i64 S.t, .int .i64 S.s, .int .i64 S.l, .slice s1 S.n1 t1, .slice s2 S.n2 t2, .slice s3 S.n3 t3]] w fun e w' => e = .returned (.bool true) ∧ Below w.heap.size w w' := by
  have HC := Hid.mk hC
  have HI := Hid.mk hI
  have HS := Hid.mk hS
  have HT := Hid.mk hT
  clear hC hI hS hT
  go_enter Tryd.func3, Tryd.ntmps3
  go_wp2_with fail
  refine (Eq.szCodeG a1 a2 a3 c1 c2 c3 C.n1 C.n2 C.n3 C.R C.S 1048576 _ h1 h2 h3 (by omega) (by omega)).mono ?_
  rintro e w1 ⟨r, rfl, hb, hr⟩
  have HB := Hid.mk (below_then (w := w) (by go_grown) hb)
  have A0 := Hid.mk (blk_below (blk_alloc (blk_alloc (blk_new w _) _) _) hb)
  have A1 := Hid.mk (blk_below (blk_alloc (blk_new1 w _ _) _) hb)
  have A2 := Hid.mk (blk_below (blk_new2 w _ _ _) hb)
  clear hb
  rcases hr with hr | ⟨r0, r1, m1, m2, m3⟩
  · go_wp2
    go_ret
    exact ⟨rfl, HB.out⟩
  have x0 := blk_cell A1.out 0
  have x1 := blk_cell A1.out 1
  have x2 := blk_cell A1.out 2
  simp only [List.getElem?_toArray, List.getElem?_cons_zero, List.getElem?_cons_succ] at x0 x1 x2
  go_wp2_with fail
  clear x0 x1 x2
  refine (Eq.szInstG b1 b2 b3 d1 d2 d3 I.nV I.nQ I.nR r _ h4 h5 h6 r0 r1).mono ?_
  rintro e w2 ⟨r', rfl, hb, hr⟩
  have HB' := Hid.mk (below_then HB.out hb)
  have A0' := Hid.mk (blk_below A0.out hb)
  have A1' := Hid.mk (blk_below A1.out hb)
  have A2' := Hid.mk (blk_below A2.out hb)
  clear hb HB A0 A1 A2
  rcases hr with hr | ⟨r2, r3, m4, m5, m6⟩
  · go_wp2
    go_ret
    exact ⟨rfl, HB'.out⟩
  have x0 := blk_cell A2'.out 0
  have x1 := blk_cell A2'.out 1
  have x2 := blk_cell A2'.out 2
  have x3 := blk_cell A2'.out 3
  have x4 := blk_cell A2'.out 4
  have x5 := blk_cell A2'.out 5
  have x6 := blk_cell A2'.out 6
  have x7 := blk_cell A2'.out 7
  have x8 := blk_cell A2'.out 8
  simp only [List.getElem?_toArray, List.getElem?_cons_zero, List.getElem?_cons_succ] at x0 x1 x2 x3 x4 x5 x6 x7 x8
  go_wp2_with fail
  clear x0 x1 x2 x3 x4 x5 x6 x7 x8
  refine (Eq.szStateG s1 s2 s3 t1 t2 t3 S.n1 S.n2 S.n3 S.p S.r S.d S.t S.s S.l r' _ h7 h8 h9 r2 r3).mono ?_
  rintro e w3 ⟨r'', rfl, hb, hr⟩
  have HB := Hid.mk (below_then HB'.out hb)
  have A0 := Hid.mk (blk_below A0'.out hb)
  have A1 := Hid.mk (blk_below A1'.out hb)
  have A2 := Hid.mk (blk_below A2'.out hb)
  clear hb HB' A0' A1' A2'
  rcases hr with hr | ⟨r4, r5, m7, m8, m9⟩
  · go_wp2
    go_ret
    exact ⟨rfl, HB.out⟩
  have x0 := blk_cell A0.out 0
  have x1 := blk_cell A0.out 1
  have x2 := blk_cell A0.out 2
  have x3 := blk_cell A0.out 3
  have x4 := blk_cell A0.out 4
  have y0 := blk_cell A1.out 0
  have y1 := blk_cell A1.out 1
  have y2 := blk_cell A1.out 2
  have z0 := blk_cell A2.out 0
  have z1 := blk_cell A2.out 1
  have z2 := blk_cell A2.out 2
  have z3 := blk_cell A2.out 3
  have z4 := blk_cell A2.out 4
  have z5 := blk_cell A2.out 5
  have z6 := blk_cell A2.out 6
  have z7 := blk_cell A2.out 7
  have z8 := blk_cell A2.out 8
  simp only [List.getElem?_toArray, List.getElem?_cons_zero, List.getElem?_cons_succ] at x0 x1 x2 x3 x4 y0 y1 y2 z0 z1 z2 z3 z4 z5 z6 z7 z8
  go_wp2_with fail
  have HCd : Hid (CoAt w3.drew a1 a2 a3 C) := HC.out.below HB.out.drew
  have HId : Hid (InAt w3.drew b1 b2 b3 I) := HI.out.below HB.out.drew
  have HSd : Hid (StAt w3.drew s1 s2 s3 S) := HS.out.below HB.out.drew
  go_region_held3 (fun w' => w'.cell? ⟨w.heap.size, 0, none⟩ = some (.int .i64 C.R) ∧ w'.cell? ⟨w.heap.size, 1, none⟩ = some (.int .i64 C.S) ∧ w'.cell? ⟨w.heap.size, 2, none⟩ = some (.slice a1 C.n1 c1) ∧ w'.cell? ⟨w.heap.size, 3, none⟩ = some (.slice a2 C.n2 c2) ∧ w'.cell? ⟨w.heap.size, 4, none⟩ = some (.slice a3 C.n3 c3) ∧ w'.cell? ⟨w.heap.size + 1, 0, none⟩ = some (.slice b1 I.nV d1) ∧ w'.cell? ⟨w.heap.size + 1, 1, none⟩ = some (.slice b2 I.nQ d2) ∧ w'.cell? ⟨w.heap.size + 1, 2, none⟩ = some (.slice b3 I.nR d3) ∧ w'.cell? ⟨w.heap.size + 1 + 1, 0, none⟩ = some (.int .i64 S.p) ∧ w'.cell? ⟨w.heap.size + 1 + 1, 1, none⟩ = some (.int .i64 S.r) ∧ w'.cell? ⟨w.heap.size + 1 + 1, 2, none⟩ = some (.int .i64 S.d) ∧ w'.cell? ⟨w.heap.size + 1 + 1, 3, none⟩ = some (.int .i64 S.t) ∧ w'.cell? ⟨w.heap.size + 1 + 1, 4, none⟩ = some (.int .i64 S.s) ∧ w'.cell? ⟨w.heap.size + 1 + 1, 5, none⟩ = some (.int .i64 S.l) ∧ w'.cell? ⟨w.heap.size + 1 + 1, 6, none⟩ = some (.slice s1 S.n1 t1) ∧ w'.cell? ⟨w.heap.size + 1 + 1, 7, none⟩ = some (.slice s2 S.n2 t2) ∧ w'.cell? ⟨w.heap.size + 1 + 1, 8, none⟩ = some (.slice s3 S.n3 t3))
    (first | go_keep | ((repeat' constructor) <;> first | exact cell_keep hb7 (by assumption) | exact cell_keep hb6 (by assumption) | exact cell_keep hb5 (by assumption) | exact cell_keep hb4 (by assumption) | exact cell_keep hb7 (by simp [*]; done) | exact cell_keep hb6 (by simp [*]; done) | exact cell_keep hb5 (by simp [*]; done) | exact cell_keep hb4 (by simp [*]; done)))
    ((first | (go_at_call 8; refine (Copy.toCode a1 a2 a3 c1 c2 c3 C _ HCd.out m1 m2 m3).mono ?_; rintro e w4 ⟨p1, p2, p3, rfl, hb4, hI4, -⟩) | (go_at_call 9; refine (Copy.toInst b1 b2 b3 d1 d2 d3 I _ (HId.out.below hb4) m4 m5 m6).mono ?_; rintro e w5 ⟨q1, q2, q3, rfl, hb5, hI5, -⟩) | (go_at_call 10; refine (Copy.toState s1 s2 s3 t1 t2 t3 S _ ((HSd.out.below hb4).below hb5) m7 m8 m9).mono ?_; rintro e w6 ⟨u1, u2, u3, rfl, hb6, hI6, -⟩) | (go_at_call 7; refine (StV.validStS _ _ _ _ _ _ _ _ _ _ _ _ _ _ _ _ _ _ C I v S _ ((hI4.below hb5).below hb6) (hI5.below hb6) hI6 m1 m2 m3 m4 m5 m6 m7 m8 m9).mono ?_; rintro e w7 ⟨rfl, hb7⟩)))
  have HB' := Hid.mk (below_then (below_then (below_then (below_then HB.out.drew hb4) hb5) hb6) hb7)
  have A0' := Hid.mk (blk_below (blk_below (blk_below (blk_below (w := w3.drew) A0.out hb4) hb5) hb6) hb7)
  have A1' := Hid.mk (blk_below (blk_below (blk_below (blk_below (w := w3.drew) A1.out hb4) hb5) hb6) hb7)
  have A2' := Hid.mk (blk_below (blk_below (blk_below (blk_below (w := w3.drew) A2.out hb4) hb5) hb6) hb7)
  clear hb4 hb5 hb6 hb7 hI4 hI5 hI6 HCd HId HSd HB A0 A1 A2 x0 x1 x2 x3 x4 y0 y1 y2 z0 z1 z2 z3 z4 z5 z6 z7 z8
  have x0 := blk_cell A0'.out 0
  have x1 := blk_cell A0'.out 1
  have x2 := blk_cell A0'.out 2
  have x3 := blk_cell A0'.out 3
  have x4 := blk_cell A0'.out 4
  simp only [List.getElem?_toArray, List.getElem?_cons_zero, List.getElem?_cons_succ] at x0 x1 x2 x3 x4
  go_wp2_with fail
  clear x0 x1 x2 x3 x4
  refine (Copy.toCode a1 a2 a3 c1 c2 c3 C _ (HC.out.below HB'.out) m1 m2 m3).mono ?_
  rintro e w8 ⟨q1, q2, q3, rfl, hb, hI8, -⟩
  have hg : Below w8.heap.size w8 (w8.alloc (.cells #[.int .i64 C.R, .int .i64 C.S, .slice (some ⟨q1, 0, none⟩) C.n1 C.n1, .slice (some ⟨q2, 0, none⟩) C.n2 C.n2, .slice (some ⟨q3, 0, none⟩) C.n3 C.n3] 39)) := by go_grown
  have hb' := below_then hb hg
  have HB := Hid.mk (below_then HB'.out hb')
  have A0 := Hid.mk (blk_below A0'.out hb')
  have A1 := Hid.mk (blk_below A1'.out hb')
  have A2 := Hid.mk (blk_below A2'.out hb')
  have KC := Hid.mk (hI8.below hg)
  have X0 := Hid.mk (blk_new w8 (.cells #[.int .i64 C.R, .int .i64 C.S, .slice (some ⟨q1, 0, none⟩) C.n1 C.n1, .slice (some ⟨q2, 0, none⟩) C.n2 C.n2, .slice (some ⟨q3, 0, none⟩) C.n3 C.n3] 39))
  clear hb hb' hg hI8 HB' A0' A1' A2'
  have x0 := blk_cell A1.out 0
  have x1 := blk_cell A1.out 1
  have x2 := blk_cell A1.out 2
  simp only [List.getElem?_toArray, List.getElem?_cons_zero, List.getElem?_cons_succ] at x0 x1 x2
  go_wp2_with fail
  clear x0 x1 x2
  refine (Copy.toInst b1 b2 b3 d1 d2 d3 I _ (HI.out.below HB.out) m4 m5 m6).mono ?_
  rintro e w9 ⟨o1, o2, o3, rfl, hb, hI9, -⟩
  have hg : Below w9.heap.size w9 (w9.alloc (.cells #[.slice (some ⟨o1, 0, none⟩) I.nV I.nV, .slice (some ⟨o2, 0, none⟩) I.nQ I.nQ, .slice (some ⟨o3, 0, none⟩) I.nR I.nR] 45)) := by go_grown
  have hb' := below_then hb hg
  have HB' := Hid.mk (below_then HB.out hb')
  have A0' := Hid.mk (blk_below A0.out hb')
  have A1' := Hid.mk (blk_below A1.out hb')
  have A2' := Hid.mk (blk_below A2.out hb')
  have KC' := Hid.mk (KC.out.below hb')
  have X0' := Hid.mk (blk_below X0.out hb')
  have KI := Hid.mk (hI9.below hg)
  have X1 := Hid.mk (blk_new w9 (.cells #[.slice (some ⟨o1, 0, none⟩) I.nV I.nV, .slice (some ⟨o2, 0, none⟩) I.nQ I.nQ, .slice (some ⟨o3, 0, none⟩) I.nR I.nR] 45))
  clear hb hb' hg hI9 HB A0 A1 A2 KC X0
  have x0 := blk_cell A2'.out 0
  have x1 := blk_cell A2'.out 1
  have x2 := blk_cell A2'.out 2
  have x3 := blk_cell A2'.out 3
  have x4 := blk_cell A2'.out 4
  have x5 := blk_cell A2'.out 5
  have x6 := blk_cell A2'.out 6
  have x7 := blk_cell A2'.out 7
  have x8 := blk_cell A2'.out 8
  simp only [List.getElem?_toArray, List.getElem?_cons_zero, List.getElem?_cons_succ] at x0 x1 x2 x3 x4 x5 x6 x7 x8
  go_wp2_with fail
  clear x0 x1 x2 x3 x4 x5 x6 x7 x8
  refine (Copy.toState s1 s2 s3 t1 t2 t3 S _ (HS.out.below HB'.out) m7 m8 m9).mono ?_
  rintro e w10 ⟨u1, u2, u3, rfl, hb, hI10, -⟩
  have hg : Below w10.heap.size w10 (w10.alloc (.cells #[.int .i64 S.p, .int .i64 S.r, .int .i64 S.d, .int .i64 S.t, .int .i64 S.s, .int .i64 S.l, .slice (some ⟨u1, 0, none⟩) S.n1 S.n1, .slice (some ⟨u2, 0, none⟩) S.n2 S.n2, .slice (some ⟨u3, 0, none⟩) S.n3 S.n3] 47)) := by go_grown
  have hb' := below_then hb hg
  have HB := Hid.mk (below_then HB'.out hb')
  have A0 := Hid.mk (blk_below A0'.out hb')
  have A1 := Hid.mk (blk_below A1'.out hb')
  have A2 := Hid.mk (blk_below A2'.out hb')
  have KC := Hid.mk (KC'.out.below hb')
  have X0 := Hid.mk (blk_below X0'.out hb')
  have KI' := Hid.mk (KI.out.below hb')
  have X1' := Hid.mk (blk_below X1.out hb')
  have KS := Hid.mk (hI10.below hg)
  have X2 := Hid.mk (blk_new w10 (.cells #[.int .i64 S.p, .int .i64 S.r, .int .i64 S.d, .int .i64 S.t, .int .i64 S.s, .int .i64 S.l, .slice (some ⟨u1, 0, none⟩) S.n1 S.n1, .slice (some ⟨u2, 0, none⟩) S.n2 S.n2, .slice (some ⟨u3, 0, none⟩) S.n3 S.n3] 47))
  clear hb hb' hg hI10 HB' A0' A1' A2' KC' X0' KI X1
  have x0 := blk_cell X0.out 0
  have x1 := blk_cell X0.out 1
  have x2 := blk_cell X0.out 2
  have x3 := blk_cell X0.out 3
  have x4 := blk_cell X0.out 4
  have y0 := blk_cell X1'.out 0
  have y1 := blk_cell X1'.out 1
  have y2 := blk_cell X1'.out 2
  have z0 := blk_cell X2.out 0
  have z1 := blk_cell X2.out 1
  have z2 := blk_cell X2.out 2
  have z3 := blk_cell X2.out 3
  have z4 := blk_cell X2.out 4
  have z5 := blk_cell X2.out 5
  have z6 := blk_cell X2.out 6
  have z7 := blk_cell X2.out 7
  have z8 := blk_cell X2.out 8
  simp only [List.getElem?_toArray, List.getElem?_cons_zero, List.getElem?_cons_succ] at x0 x1 x2 x3 x4 y0 y1 y2 z0 z1 z2 z3 z4 z5 z6 z7 z8
  go_wp2_with fail
  clear x0 x1 x2 x3 x4 y0 y1 y2 z0 z1 z2 z3 z4 z5 z6 z7 z8
  refine (StV.validStI _ _ _ _ _ _ _ _ _ _ _ _ _ _ _ _ _ _ C I v S _ KC.out KI'.out KS.out m1 m2 m3 m4 m5 m6 m7 m8 m9 (HT.out.below HB.out)).mono ?_
  rintro e w11 ⟨rfl, hb⟩
  have HB' := Hid.mk (below_then HB.out hb)
  have A0' := Hid.mk (blk_below A0.out hb)
  have A1' := Hid.mk (blk_below A1.out hb)
  have A2' := Hid.mk (blk_below A2.out hb)
  have KC' := Hid.mk (KC.out.below hb)
  have X0' := Hid.mk (blk_below X0.out hb)
  have KI := Hid.mk (KI'.out.below hb)
  have X1 := Hid.mk (blk_below X1'.out hb)
  have KS' := Hid.mk (KS.out.below hb)
  have X2' := Hid.mk (blk_below X2.out hb)
  clear hb HB A0 A1 A2 KC X0 KI' X1' KS X2
  have x0 := blk_cell A0'.out 0
  have x1 := blk_cell A0'.out 1
  have x2 := blk_cell A0'.out 2
  have x3 := blk_cell A0'.out 3
  have x4 := blk_cell A0'.out 4
  have y0 := blk_cell X0'.out 0
  have y1 := blk_cell X0'.out 1
  have y2 := blk_cell X0'.out 2
  have y3 := blk_cell X0'.out 3
  have y4 := blk_cell X0'.out 4
  simp only [List.getElem?_toArray, List.getElem?_cons_zero, List.getElem?_cons_succ] at x0 x1 x2 x3 x4 y0 y1 y2 y3 y4
  go_wp2_with fail
  have Kd : Hid (CoAt w11.drew _ _ _ C) := KC'.out.below (Below.refl _ _).drew
  have Hd : Hid (CoAt w11.drew a1 a2 a3 C) := HC.out.below HB'.out.drew
  go_region_held3 (fun w' => w'.cell? ⟨w.heap.size, 0, none⟩ = some (.int .i64 C.R) ∧ w'.cell? ⟨w.heap.size, 1, none⟩ = some (.int .i64 C.S) ∧ w'.cell? ⟨w.heap.size, 2, none⟩ = some (.slice a1 C.n1 c1) ∧ w'.cell? ⟨w.heap.size, 3, none⟩ = some (.slice a2 C.n2 c2) ∧ w'.cell? ⟨w.heap.size, 4, none⟩ = some (.slice a3 C.n3 c3) ∧ w'.cell? ⟨w8.heap.size, 0, none⟩ = some (.int .i64 C.R) ∧ w'.cell? ⟨w8.heap.size, 1, none⟩ = some (.int .i64 C.S) ∧ w'.cell? ⟨w8.heap.size, 2, none⟩ = some (.slice (some ⟨q1, 0, none⟩) C.n1 C.n1) ∧ w'.cell? ⟨w8.heap.size, 3, none⟩ = some (.slice (some ⟨q2, 0, none⟩) C.n2 C.n2) ∧ w'.cell? ⟨w8.heap.size, 4, none⟩ = some (.slice (some ⟨q3, 0, none⟩) C.n3 C.n3))
    (first | go_keep | ((repeat' constructor) <;> first | exact cell_keep hb7 (by assumption) | exact cell_keep hb6 (by assumption) | exact cell_keep hb7 (by simp [*]; done) | exact cell_keep hb6 (by simp [*]; done)))
    ((first | (go_at_call 8; refine (Copy.toCode a1 a2 a3 c1 c2 c3 C _ Hd.out m1 m2 m3).mono ?_; rintro e w12 ⟨e1, e2, e3, rfl, hb6, hI6, -⟩) | (go_at_call 12; refine (Eq.eqCode _ _ _ _ _ _ _ _ _ _ _ _ C _ (Kd.out.below hb6) hI6 m1 m2 m3).mono ?_; rintro e w13 ⟨rfl, hb7⟩)))
  have HB := Hid.mk (below_then (below_then HB'.out.drew hb6) hb7)
  have A1 := Hid.mk (blk_below (blk_below (w := w11.drew) A1'.out hb6) hb7)
  have A2 := Hid.mk (blk_below (blk_below (w := w11.drew) A2'.out hb6) hb7)
  have X1' := Hid.mk (blk_below (blk_below (w := w11.drew) X1.out hb6) hb7)
  have X2 := Hid.mk (blk_below (blk_below (w := w11.drew) X2'.out hb6) hb7)
  have KI' := Hid.mk (((KI.out.below (Below.refl _ _).drew).below hb6).below hb7)
  have KS := Hid.mk (((KS'.out.below (Below.refl _ _).drew).below hb6).below hb7)
  clear hb6 hb7 hI6 Kd Hd HB' A0' A1' A2' KC' X0' KI X1 KS' X2' x0 x1 x2 x3 x4 y0 y1 y2 y3 y4
  have x0 := blk_cell A1.out 0
  have x1 := blk_cell A1.out 1
  have x2 := blk_cell A1.out 2
  have y0 := blk_cell X1'.out 0
  have y1 := blk_cell X1'.out 1
  have y2 := blk_cell X1'.out 2
  simp only [List.getElem?_toArray, List.getElem?_cons_zero, List.getElem?_cons_succ] at x0 x1 x2 y0 y1 y2
  go_wp2_with fail
  have Kd : Hid (InAt w13.drew _ _ _ I) := KI'.out.below (Below.refl _ _).drew
  have Hd : Hid (InAt w13.drew b1 b2 b3 I) := HI.out.below HB.out.drew
  go_region_held3 (fun w' => w'.cell? ⟨w.heap.size + 1, 0, none⟩ = some (.slice b1 I.nV d1) ∧ w'.cell? ⟨w.heap.size + 1, 1, none⟩ = some (.slice b2 I.nQ d2) ∧ w'.cell? ⟨w.heap.size + 1, 2, none⟩ = some (.slice b3 I.nR d3) ∧ w'.cell? ⟨w9.heap.size, 0, none⟩ = some (.slice (some ⟨o1, 0, none⟩) I.nV I.nV) ∧ w'.cell? ⟨w9.heap.size, 1, none⟩ = some (.slice (some ⟨o2, 0, none⟩) I.nQ I.nQ) ∧ w'.cell? ⟨w9.heap.size, 2, none⟩ = some (.slice (some ⟨o3, 0, none⟩) I.nR I.nR))
    (first | go_keep | ((repeat' constructor) <;> first | exact cell_keep hb7 (by assumption) | exact cell_keep hb6 (by assumption) | exact cell_keep hb7 (by simp [*]; done) | exact cell_keep hb6 (by simp [*]; done)))
    ((first | (go_at_call 9; refine (Copy.toInst b1 b2 b3 d1 d2 d3 I _ Hd.out m4 m5 m6).mono ?_; rintro e w14 ⟨e1, e2, e3, rfl, hb6, hI6, -⟩) | (go_at_call 13; refine (Eq.eqInst _ _ _ _ _ _ _ _ _ _ _ _ I _ (Kd.out.below hb6) hI6 m4 m5 m6).mono ?_; rintro e w15 ⟨rfl, hb7⟩)))
  have HB' := Hid.mk (below_then (below_then HB.out.drew hb6) hb7)
  have A2' := Hid.mk (blk_below (blk_below (w := w13.drew) A2.out hb6) hb7)
  have X2' := Hid.mk (blk_below (blk_below (w := w13.drew) X2.out hb6) hb7)
  have KS' := Hid.mk (((KS.out.below (Below.refl _ _).drew).below hb6).below hb7)
  clear hb6 hb7 hI6 Kd Hd HB A1 A2 KI' X1' KS X2 x0 x1 x2 y0 y1 y2
  have x0 := blk_cell A2'.out 0
  have x1 := blk_cell A2'.out 1
  have x2 := blk_cell A2'.out 2
  have x3 := blk_cell A2'.out 3
  have x4 := blk_cell A2'.out 4
  have x5 := blk_cell A2'.out 5
  have x6 := blk_cell A2'.out 6
  have x7 := blk_cell A2'.out 7
  have x8 := blk_cell A2'.out 8
  have y0 := blk_cell X2'.out 0
  have y1 := blk_cell X2'.out 1
  have y2 := blk_cell X2'.out 2
  have y3 := blk_cell X2'.out 3
  have y4 := blk_cell X2'.out 4
  have y5 := blk_cell X2'.out 5
  have y6 := blk_cell X2'.out 6
  have y7 := blk_cell X2'.out 7
  have y8 := blk_cell X2'.out 8
  simp only [List.getElem?_toArray, List.getElem?_cons_zero, List.getElem?_cons_succ] at x0 x1 x2 x3 x4 x5 x6 x7 x8 y0 y1 y2 y3 y4 y5 y6 y7 y8
  go_wp2_with fail
  have Kd : Hid (StAt w15.drew _ _ _ S) := KS'.out.below (Below.refl _ _).drew
  have Hd : Hid (StAt w15.drew s1 s2 s3 S) := HS.out.below HB'.out.drew
  go_region_held3 (fun w' => w'.cell? ⟨w.heap.size + 1 + 1, 0, none⟩ = some (.int .i64 S.p) ∧ w'.cell? ⟨w.heap.size + 1 + 1, 1, none⟩ = some (.int .i64 S.r) ∧ w'.cell? ⟨w.heap.size + 1 + 1, 2, none⟩ = some (.int .i64 S.d) ∧ w'.cell? ⟨w.heap.size + 1 + 1, 3, none⟩ = some (.int .i64 S.t) ∧ w'.cell? ⟨w.heap.size + 1 + 1, 4, none⟩ = some (.int .i64 S.s) ∧ w'.cell? ⟨w.heap.size + 1 + 1, 5, none⟩ = some (.int .i64 S.l) ∧ w'.cell? ⟨w.heap.size + 1 + 1, 6, none⟩ = some (.slice s1 S.n1 t1) ∧ w'.cell? ⟨w.heap.size + 1 + 1, 7, none⟩ = some (.slice s2 S.n2 t2) ∧ w'.cell? ⟨w.heap.size + 1 + 1, 8, none⟩ = some (.slice s3 S.n3 t3) ∧ w'.cell? ⟨w10.heap.size, 0, none⟩ = some (.int .i64 S.p) ∧ w'.cell? ⟨w10.heap.size, 1, none⟩ = some (.int .i64 S.r) ∧ w'.cell? ⟨w10.heap.size, 2, none⟩ = some (.int .i64 S.d) ∧ w'.cell? ⟨w10.heap.size, 3, none⟩ = some (.int .i64 S.t) ∧ w'.cell? ⟨w10.heap.size, 4, none⟩ = some (.int .i64 S.s) ∧ w'.cell? ⟨w10.heap.size, 5, none⟩ = some (.int .i64 S.l) ∧ w'.cell? ⟨w10.heap.size, 6, none⟩ = some (.slice (some ⟨u1, 0, none⟩) S.n1 S.n1) ∧ w'.cell? ⟨w10.heap.size, 7, none⟩ = some (.slice (some ⟨u2, 0, none⟩) S.n2 S.n2) ∧ w'.cell? ⟨w10.heap.size, 8, none⟩ = some (.slice (some ⟨u3, 0, none⟩) S.n3 S.n3))
    (first | go_keep | ((repeat' constructor) <;> first | exact cell_keep hb7 (by assumption) | exact cell_keep hb6 (by assumption) | exact cell_keep hb7 (by simp [*]; done) | exact cell_keep hb6 (by simp [*]; done)))
    ((first | (go_at_call 10; refine (Copy.toState s1 s2 s3 t1 t2 t3 S _ Hd.out m7 m8 m9).mono ?_; rintro e w16 ⟨e1, e2, e3, rfl, hb6, hI6, -⟩) | (go_at_call 14; refine (Eq.eqState _ _ _ _ _ _ _ _ _ _ _ _ S _ (Kd.out.below hb6) hI6 m7 m8 m9).mono ?_; rintro e w17 ⟨rfl, hb7⟩)))
  have HB := Hid.mk (below_then (below_then HB'.out.drew hb6) hb7)
  clear hb6 hb7 hI6 Kd Hd x0 x1 x2 x3 x4 x5 x6 x7 x8 y0 y1 y2 y3 y4 y5 y6 y7 y8
  go_wp2
  go_ret
  exact ⟨rfl, HB.out⟩
end Go.Proofs.YtgooegcmgejfpaaDoor.LawValS
