import Derived.Test.YtgooegcmgejfpaaGreatDoorGs05
import Derived.Test.YtgooegcmgejfpaaGreatDoorGs08
import Derived.Test.YtgooegcmgejfpaaGreatDoorGs09
import Derived.Test.YtgooegcmgejfpaaGreatDoorGs11
import Derived.Test.YtgooegcmgejfpaaGreatDoorGs12
import Derived.Test.YtgooegcmgejfpaaGreatDoorGs13
import Derived.Test.YtgooegcmgejfpaaGreatDoorGs14
import Derived.Test.YtgooegcmgejfpaaGreatDoorGs43
import Derived.Test.YtgooegcmgejfpaaGreatDoorGs45
import Derived.Test.YtgooegcmgejfpaaGreatDoorGs47
import Derived.Deep.DrawnRows
import Derived.Deep.CutRange
import Derived.Deep.Cut
import Derived.Deep.DeepCutAuto
namespace Go.Proofs.YtgooegcmgejfpaaGreatDoor.LawStep
open Go Go.RowKit Go.Sort Go.Proofs.YtgooegcmgejfpaaGreatDoor.Mem
set_option linter.unusedVariables false
set_option linter.unusedSimpArgs false
attribute [local go_sem ↓] Go.wp_at_zero Go.wp_at_succ

theorem specS (a1 a2 a3 b1 b2 b3 s1 s2 s3 : Option Addr) (c1 c2 c3 d1 d2 d3 t1 t2 t3 : Nat) (C : Co) (I : In) (v : Int) (S : St) (n : Int) (W : St) (hW : W = (Mac.stepB C I v S n)) (w : World) (hC : CoAt w a1 a2 a3 C) (hI : InAt w b1 b2 b3 I) (hS : StAt w s1 s2 s3 S) (k1 : C.n1 ≤ 1048576) (k2 : C.n2 ≤ 1048576) (k3 : C.n3 ≤ 1048576) (h1 : I.nV ≤ 1048576) (h2 : I.nQ ≤ 1048576) (h3 : I.nR ≤ 1048576) (j1 : S.n1 ≤ 1048576) (j2 : S.n2 ≤ 1048576) (j3 : S.n3 ≤ 1048576) (hcap : S.n2 ≤ t2) :
    Calls Tryz.prog 21 #[.agg #[.int .i64 C.R, .int .i64 C.S, .slice a1 C.n1 c1, .slice a2 C.n2 c2, .slice a3 C.n3 c3], .agg #[.slice b1 I.nV d1, .slice b2 I.nQ d2, .slice b3 I.nR d3], .int .i64 v, .agg #[.int .i64 S.p, .int .i64 S.r, .int .i64 S.d, .int .i64 S.t, .int .i64 S.s, .int .i64 S.l, .slice s1 S.n1 t1, .slice s2 S.n2 t2, .slice s3 S.n3 t3], .int .i64 n] w fun e w' => ∃ (y1 y2 y3 : Option Addr) (z1 z2 z3 : Nat), e = .returned (.agg #[.int .i64 W.p, .int .i64 W.r, .int .i64 W.d, .int .i64 W.t, .int .i64 W.s, .int .i64 W.l, .slice y1 W.n1 z1, .slice y2 W.n2 z2, .slice y3 W.n3 z3]) ∧ StAt w' y1 y2 y3 W ∧ Below w.heap.size w w' ∧ Mac.Fre w.heap.size y1 y2 y3 W := by
  subst hW
  exact Mac.stepS a1 a2 a3 b1 b2 b3 s1 s2 s3 c1 c2 c3 d1 d2 d3 t1 t2 t3 C I v S n w hC hI hS k1 k2 k3 h1 h2 h3 j1 j2 j3 hcap
theorem implS (a1 a2 a3 b1 b2 b3 s1 s2 s3 : Option Addr) (c1 c2 c3 d1 d2 d3 t1 t2 t3 : Nat) (C : Co) (I : In) (v : Int) (S : St) (n : Int) (W : St) (hW : W = (Mac.stepB C I v S n)) (w : World) (hC : CoAt w a1 a2 a3 C) (hI : InAt w b1 b2 b3 I) (hS : StAt w s1 s2 s3 S) (k1 : C.n1 ≤ 1048576) (k2 : C.n2 ≤ 1048576) (k3 : C.n3 ≤ 1048576) (h1 : I.nV ≤ 1048576) (h2 : I.nQ ≤ 1048576) (h3 : I.nR ≤ 1048576) (j1 : S.n1 ≤ 1048576) (j2 : S.n2 ≤ 1048576) (j3 : S.n3 ≤ 1048576) (hT : ValC.TabC w) :
    Calls Tryz.prog 23 #[.agg #[.int .i64 C.R, .int .i64 C.S, .slice a1 C.n1 c1, .slice a2 C.n2 c2, .slice a3 C.n3 c3], .agg #[.slice b1 I.nV d1, .slice b2 I.nQ d2, .slice b3 I.nR d3], .int .i64 v, .agg #[.int .i64 S.p, .int .i64 S.r, .int .i64 S.d, .int .i64 S.t, .int .i64 S.s, .int .i64 S.l, .slice s1 S.n1 t1, .slice s2 S.n2 t2, .slice s3 S.n3 t3], .int .i64 n] w fun e w' => ∃ (y1 y2 y3 : Option Addr) (z1 z2 z3 g1 g2 g3 : Nat), e = .returned (.agg #[.int .i64 W.p, .int .i64 W.r, .int .i64 W.d, .int .i64 W.t, .int .i64 W.s, .int .i64 W.l, .slice y1 W.n1 z1, .slice y2 W.n2 z2, .slice y3 W.n3 z3]) ∧ Below w.heap.size w w' ∧ Mac.OwS w.heap.size w' y1 y2 y3 g1 g2 g3 W := by
  subst hW
  exact (Mac.stepTopI a1 a2 a3 b1 b2 b3 s1 s2 s3 c1 c2 c3 d1 d2 d3 t1 t2 t3 C I v S n w hC hI hS k1 k2 k3 h1 h2 h3 j1 j2 j3 hT).mono fun e w' h => Mac.OwS.of h
set_option maxHeartbeats 16000000 in
set_option maxRecDepth 100000 in
theorem law (a1 a2 a3 b1 b2 b3 s1 s2 s3 : Option Addr) (c1 c2 c3 d1 d2 d3 t1 t2 t3 : Nat) (C : Co) (I : In) (v : Int) (S : St) (n : Int) (w : World) (hC : CoAt w a1 a2 a3 C) (hI : InAt w b1 b2 b3 I) (hS : StAt w s1 s2 s3 S) (h1 : C.n1 ≤ 9223372036854775807) (h2 : C.n2 ≤ 9223372036854775807) (h3 : C.n3 ≤ 9223372036854775807) (h4 : I.nV ≤ 9223372036854775807) (h5 : I.nQ ≤ 9223372036854775807) (h6 : I.nR ≤ 9223372036854775807) (h7 : S.n1 ≤ 9223372036854775807) (h8 : S.n2 ≤ 9223372036854775807) (h9 : S.n3 ≤ 9223372036854775807) (hT : ValC.TabC w) :
    Calls Tryz.prog 4 #[.agg #[.int .i64 C.R, .int .i64 C.S, .slice a1 C.n1 c1, .slice a2 C.n2 c2, .slice a3 C.n3 c3], .agg #[.slice b1 I.nV d1, .slice b2 I.nQ d2, .slice b3 I.nR d3], .int .i64 v, .agg #[.int .i64 S.p, .int .i64 S.r, .int .i64 S.d, .int .i64 S.t, .int .i64 S.s, .int .i64 S.l, .slice s1 S.n1 t1, .slice s2 S.n2 t2, .slice s3 S.n3 t3], .int .i64 n] w fun e w' => e = .returned (.bool true) ∧ Below w.heap.size w w' := by
  have HC := Hid.mk hC
  have HI := Hid.mk hI
  have HS := Hid.mk hS
  have HT := Hid.mk hT
  clear hC hI hS hT
  obtain ⟨W, hW⟩ : ∃ W : St, W = (Mac.stepB C I v S n) := ⟨_, rfl⟩
  have HW := Hid.mk hW
  clear hW
  go_enter Tryz.func4, Tryz.ntmps4
  go_wp2_with fail
  refine (Eq.szCodeG a1 a2 a3 c1 c2 c3 C.n1 C.n2 C.n3 C.R C.S 1048576 _ h1 h2 h3 (by omega) (by omega)).mono ?_
  rintro e v0 ⟨r0, rfl, hb, hr⟩
  have HB_0 := Hid.mk (below_then (w := w) (by go_grown) hb)
  have A0_0 := Hid.mk (blk_below (blk_alloc (blk_alloc (blk_new w _) _) _) hb)
  have A1_0 := Hid.mk (blk_below (blk_alloc (blk_new1 w _ _) _) hb)
  have A2_0 := Hid.mk (blk_below (blk_new2 w _ _ _) hb)
  clear hb
  rcases hr with hr | ⟨ra0, rb0, m1, m2, m3⟩
  · go_wp2
    go_ret
    exact ⟨rfl, HB_0.out⟩
  have x0 := blk_cell A1_0.out 0
  have x1 := blk_cell A1_0.out 1
  have x2 := blk_cell A1_0.out 2
  simp only [List.getElem?_toArray, List.getElem?_cons_zero, List.getElem?_cons_succ] at x0 x1 x2
  go_wp2_with fail
  clear x0 x1 x2
  refine (Eq.szInstG b1 b2 b3 d1 d2 d3 I.nV I.nQ I.nR r0 _ h4 h5 h6 ra0 rb0).mono ?_
  rintro e v1 ⟨r1, rfl, hb, hr⟩
  have HB_1 := Hid.mk (below_then HB_0.out hb)
  have A0_1 := Hid.mk (blk_below A0_0.out hb)
  have A1_1 := Hid.mk (blk_below A1_0.out hb)
  have A2_1 := Hid.mk (blk_below A2_0.out hb)
  clear hb HB_0 A0_0 A1_0 A2_0
  rcases hr with hr | ⟨ra1, rb1, m4, m5, m6⟩
  · go_wp2
    go_ret
    exact ⟨rfl, HB_1.out⟩
  have x0 := blk_cell A2_1.out 0
  have x1 := blk_cell A2_1.out 1
  have x2 := blk_cell A2_1.out 2
  have x3 := blk_cell A2_1.out 3
  have x4 := blk_cell A2_1.out 4
  have x5 := blk_cell A2_1.out 5
  have x6 := blk_cell A2_1.out 6
  have x7 := blk_cell A2_1.out 7
  have x8 := blk_cell A2_1.out 8
  simp only [List.getElem?_toArray, List.getElem?_cons_zero, List.getElem?_cons_succ] at x0 x1 x2 x3 x4 x5 x6 x7 x8
  go_wp2_with fail
  clear x0 x1 x2 x3 x4 x5 x6 x7 x8
  refine (Eq.szStateG s1 s2 s3 t1 t2 t3 S.n1 S.n2 S.n3 S.p S.r S.d S.t S.s S.l r1 _ h7 h8 h9 ra1 rb1).mono ?_
  rintro e v2 ⟨r2, rfl, hb, hr⟩
  have HB_2 := Hid.mk (below_then HB_1.out hb)
  have A0_2 := Hid.mk (blk_below A0_1.out hb)
  have A1_2 := Hid.mk (blk_below A1_1.out hb)
  have A2_2 := Hid.mk (blk_below A2_1.out hb)
  clear hb HB_1 A0_1 A1_1 A2_1
  rcases hr with hr | ⟨ra2, rb2, m7, m8, m9⟩
  · go_wp2
    go_ret
    exact ⟨rfl, HB_2.out⟩
  have HB := HB_2
  have A0 := A0_2
  have A1 := A1_2
  have A2 := A2_2
  clear HB_2 A0_2 A1_2 A2_2
  go_upto_region 11 with fail
  have LN := Hid.mk (show W.n1 ≤ 1048576 ∧ W.n2 ≤ 1048576 ∧ W.n3 ≤ 1048576 by rw [HW.out]; have z := Mac.step_len C I v S n; omega)
  have HSS := Hid.mk (show v2.cell? ⟨w.heap.size, 0, none⟩ = some (.int .i64 C.R) ∧ v2.cell? ⟨w.heap.size, 1, none⟩ = some (.int .i64 C.S) ∧ v2.cell? ⟨w.heap.size, 2, none⟩ = some (.slice a1 C.n1 c1) ∧ v2.cell? ⟨w.heap.size, 3, none⟩ = some (.slice a2 C.n2 c2) ∧ v2.cell? ⟨w.heap.size, 4, none⟩ = some (.slice a3 C.n3 c3) ∧ v2.cell? ⟨w.heap.size + 1, 0, none⟩ = some (.slice b1 I.nV d1) ∧ v2.cell? ⟨w.heap.size + 1, 1, none⟩ = some (.slice b2 I.nQ d2) ∧ v2.cell? ⟨w.heap.size + 1, 2, none⟩ = some (.slice b3 I.nR d3) ∧ v2.cell? ⟨w.heap.size + 1 + 1, 0, none⟩ = some (.int .i64 S.p) ∧ v2.cell? ⟨w.heap.size + 1 + 1, 1, none⟩ = some (.int .i64 S.r) ∧ v2.cell? ⟨w.heap.size + 1 + 1, 2, none⟩ = some (.int .i64 S.d) ∧ v2.cell? ⟨w.heap.size + 1 + 1, 3, none⟩ = some (.int .i64 S.t) ∧ v2.cell? ⟨w.heap.size + 1 + 1, 4, none⟩ = some (.int .i64 S.s) ∧ v2.cell? ⟨w.heap.size + 1 + 1, 5, none⟩ = some (.int .i64 S.l) ∧ v2.cell? ⟨w.heap.size + 1 + 1, 6, none⟩ = some (.slice s1 S.n1 t1) ∧ v2.cell? ⟨w.heap.size + 1 + 1, 7, none⟩ = some (.slice s2 S.n2 t2) ∧ v2.cell? ⟨w.heap.size + 1 + 1, 8, none⟩ = some (.slice s3 S.n3 t3) from ⟨(blk_cell A0.out 0).trans rfl, (blk_cell A0.out 1).trans rfl, (blk_cell A0.out 2).trans rfl, (blk_cell A0.out 3).trans rfl, (blk_cell A0.out 4).trans rfl, (blk_cell A1.out 0).trans rfl, (blk_cell A1.out 1).trans rfl, (blk_cell A1.out 2).trans rfl, (blk_cell A2.out 0).trans rfl, (blk_cell A2.out 1).trans rfl, (blk_cell A2.out 2).trans rfl, (blk_cell A2.out 3).trans rfl, (blk_cell A2.out 4).trans rfl, (blk_cell A2.out 5).trans rfl, (blk_cell A2.out 6).trans rfl, (blk_cell A2.out 7).trans rfl, (blk_cell A2.out 8).trans rfl⟩)
  have hwb := Hid.mk (blk_lt A2.out)
  go_cut [12] (fun m wx => ∃ (V : Nat) (y1 y2 y3 : Option Addr) (z1 z2 z3 : Nat), m = .pointer (some ⟨V, 0, none⟩) ∧ Hid (Below v2.heap.size v2 wx) ∧ Hid (wx.heap[V]? = some (.cells #[.int .i64 W.p, .int .i64 W.r, .int .i64 W.d, .int .i64 W.t, .int .i64 W.s, .int .i64 W.l, .slice y1 W.n1 z1, .slice y2 W.n2 z2, .slice y3 W.n3 z3] 34)) ∧ Hid (StAt wx y1 y2 y3 W))
  case first =>
    have HR := Hid.mk ((Below.refl v2.heap.size v2).drew)
    refine wp_region_held_drew (S := (fun w' => w'.cell? ⟨w.heap.size, 0, none⟩ = some (.int .i64 C.R) ∧ w'.cell? ⟨w.heap.size, 1, none⟩ = some (.int .i64 C.S) ∧ w'.cell? ⟨w.heap.size, 2, none⟩ = some (.slice a1 C.n1 c1) ∧ w'.cell? ⟨w.heap.size, 3, none⟩ = some (.slice a2 C.n2 c2) ∧ w'.cell? ⟨w.heap.size, 4, none⟩ = some (.slice a3 C.n3 c3) ∧ w'.cell? ⟨w.heap.size + 1, 0, none⟩ = some (.slice b1 I.nV d1) ∧ w'.cell? ⟨w.heap.size + 1, 1, none⟩ = some (.slice b2 I.nQ d2) ∧ w'.cell? ⟨w.heap.size + 1, 2, none⟩ = some (.slice b3 I.nR d3) ∧ w'.cell? ⟨w.heap.size + 1 + 1, 0, none⟩ = some (.int .i64 S.p) ∧ w'.cell? ⟨w.heap.size + 1 + 1, 1, none⟩ = some (.int .i64 S.r) ∧ w'.cell? ⟨w.heap.size + 1 + 1, 2, none⟩ = some (.int .i64 S.d) ∧ w'.cell? ⟨w.heap.size + 1 + 1, 3, none⟩ = some (.int .i64 S.t) ∧ w'.cell? ⟨w.heap.size + 1 + 1, 4, none⟩ = some (.int .i64 S.s) ∧ w'.cell? ⟨w.heap.size + 1 + 1, 5, none⟩ = some (.int .i64 S.l) ∧ w'.cell? ⟨w.heap.size + 1 + 1, 6, none⟩ = some (.slice s1 S.n1 t1) ∧ w'.cell? ⟨w.heap.size + 1 + 1, 7, none⟩ = some (.slice s2 S.n2 t2) ∧ w'.cell? ⟨w.heap.size + 1 + 1, 8, none⟩ = some (.slice s3 S.n3 t3))) (by kernel_rfl) ?_ (fun hHeld => ?_)
    · exact HSS.out
    refine wpAnyH_take (i := 0) (v := ?_) rfl (by kernel_rfl) (by kernel_rfl) (by kernel_rfl) (fun _ _ _ h => h) (Or.inl ⟨by rfl, ?_⟩) (by assumption) ?_
    rotate_left
    · intro w hSw; (try dsimp only at hSw); go_simp; (try with_reducible rfl)
    rotate_left
    simp only [Act.put, List.setIfInBounds_toArray, List.set_cons_zero, List.set_cons_succ, List.getElem_toArray, List.getElem_cons_zero, List.getElem_cons_succ]
    refine wpAnyH_take (i := 2) (v := ?_) rfl (by kernel_rfl) (by kernel_rfl) (by kernel_rfl) (fun _ _ _ h => h) (Or.inl ⟨by rfl, ?_⟩) (by assumption) ?_
    rotate_left
    · intro w hSw; (try dsimp only at hSw); go_simp; (try with_reducible rfl)
    rotate_left
    simp only [Act.put, List.setIfInBounds_toArray, List.set_cons_zero, List.set_cons_succ, List.getElem_toArray, List.getElem_cons_zero, List.getElem_cons_succ]
    refine wpAnyH_take (i := 4) (v := ?_) rfl (by kernel_rfl) (by kernel_rfl) (by kernel_rfl) (fun _ _ _ h => h) (Or.inl ⟨by rfl, ?_⟩) (by assumption) ?_
    rotate_left
    · intro w hSw; (try dsimp only at hSw); go_simp; (try with_reducible rfl)
    rotate_left
    simp only [Act.put, List.setIfInBounds_toArray, List.set_cons_zero, List.set_cons_succ, List.getElem_toArray, List.getElem_cons_zero, List.getElem_cons_succ]
    refine wpAnyH_take (i := 5) (v := ?_) rfl (by kernel_rfl) (by kernel_rfl) (by kernel_rfl) (fun _ _ _ h => h) (Or.inl ⟨by rfl, ?_⟩) (by assumption) ?_
    rotate_left
    · intro w hSw; (try dsimp only at hSw); go_simp; (try with_reducible rfl)
    rotate_left
    simp only [Act.put, List.setIfInBounds_toArray, List.set_cons_zero, List.set_cons_succ, List.getElem_toArray, List.getElem_cons_zero, List.getElem_cons_succ]
    refine wpAnyH_take (i := 7) (v := ?_) rfl (by kernel_rfl) (by kernel_rfl) (by kernel_rfl) (fun _ _ _ h => h) (Or.inl ⟨by rfl, ?_⟩) (by assumption) ?_
    rotate_left
    · intro w hSw; (try dsimp only at hSw); go_simp; (try with_reducible rfl)
    rotate_left
    simp only [Act.put, List.setIfInBounds_toArray, List.set_cons_zero, List.set_cons_succ, List.getElem_toArray, List.getElem_cons_zero, List.getElem_cons_succ]
    refine wpAnyH_ready (rs := [1, 9]) (by kernel_rfl) (by simp) ?_
    refine AllReadyH.cons rfl (fun K hK => ?_) ?_
    · go_simp
      refine (Copy.toCode a1 a2 a3 c1 c2 c3 C _ (HC.out.below (below_then HB.out HR.out)) m1 m2 m3).mono ?_
      rintro e wk0 ⟨p1, p2, p3, rfl, hb, hcp, -⟩
      have HR := Hid.mk (below_then HR.out hb)
      (try have KC := Hid.mk (KC.out.below hb))
      (try have KI := Hid.mk (KI.out.below hb))
      (try have KS := Hid.mk (KS.out.below hb))
      (try have SW := Hid.mk (SW.out.below hb))
      (try have AV := Hid.mk (blk_below AV.out hb))
      have KC := Hid.mk hcp
      refine hK.out _ _ ?_ (fun hHeld => ?_)
      · exact ⟨cell_keep hb hHeld.1, cell_keep hb hHeld.2.1, cell_keep hb hHeld.2.2.1, cell_keep hb hHeld.2.2.2.1, cell_keep hb hHeld.2.2.2.2.1, cell_keep hb hHeld.2.2.2.2.2.1, cell_keep hb hHeld.2.2.2.2.2.2.1, cell_keep hb hHeld.2.2.2.2.2.2.2.1, cell_keep hb hHeld.2.2.2.2.2.2.2.2.1, cell_keep hb hHeld.2.2.2.2.2.2.2.2.2.1, cell_keep hb hHeld.2.2.2.2.2.2.2.2.2.2.1, cell_keep hb hHeld.2.2.2.2.2.2.2.2.2.2.2.1, cell_keep hb hHeld.2.2.2.2.2.2.2.2.2.2.2.2.1, cell_keep hb hHeld.2.2.2.2.2.2.2.2.2.2.2.2.2.1, cell_keep hb hHeld.2.2.2.2.2.2.2.2.2.2.2.2.2.2.1, cell_keep hb hHeld.2.2.2.2.2.2.2.2.2.2.2.2.2.2.2.1, cell_keep hb hHeld.2.2.2.2.2.2.2.2.2.2.2.2.2.2.2.2⟩
      clear hK K
      (try simp only [Act.put, List.setIfInBounds_toArray, List.set_cons_zero, List.set_cons_succ, List.getElem_toArray, List.getElem_cons_zero, List.getElem_cons_succ])
      refine wpAnyH_ready (rs := [3, 9]) (by kernel_rfl) (by simp) ?_
      refine AllReadyH.cons rfl (fun K hK => ?_) ?_
      · go_simp
        refine (Copy.toInst b1 b2 b3 d1 d2 d3 I _ (HI.out.below (below_then HB.out HR.out)) m4 m5 m6).mono ?_
        rintro e wk1 ⟨p1, p2, p3, rfl, hb, hcp, -⟩
        have HR := Hid.mk (below_then HR.out hb)
        (try have KC := Hid.mk (KC.out.below hb))
        (try have KI := Hid.mk (KI.out.below hb))
        (try have KS := Hid.mk (KS.out.below hb))
        (try have SW := Hid.mk (SW.out.below hb))
        (try have AV := Hid.mk (blk_below AV.out hb))
        have KI := Hid.mk hcp
        refine hK.out _ _ ?_ (fun hHeld => ?_)
        · exact ⟨cell_keep hb hHeld.1, cell_keep hb hHeld.2.1, cell_keep hb hHeld.2.2.1, cell_keep hb hHeld.2.2.2.1, cell_keep hb hHeld.2.2.2.2.1, cell_keep hb hHeld.2.2.2.2.2.1, cell_keep hb hHeld.2.2.2.2.2.2.1, cell_keep hb hHeld.2.2.2.2.2.2.2.1, cell_keep hb hHeld.2.2.2.2.2.2.2.2.1, cell_keep hb hHeld.2.2.2.2.2.2.2.2.2.1, cell_keep hb hHeld.2.2.2.2.2.2.2.2.2.2.1, cell_keep hb hHeld.2.2.2.2.2.2.2.2.2.2.2.1, cell_keep hb hHeld.2.2.2.2.2.2.2.2.2.2.2.2.1, cell_keep hb hHeld.2.2.2.2.2.2.2.2.2.2.2.2.2.1, cell_keep hb hHeld.2.2.2.2.2.2.2.2.2.2.2.2.2.2.1, cell_keep hb hHeld.2.2.2.2.2.2.2.2.2.2.2.2.2.2.2.1, cell_keep hb hHeld.2.2.2.2.2.2.2.2.2.2.2.2.2.2.2.2⟩
        clear hK K
        (try simp only [Act.put, List.setIfInBounds_toArray, List.set_cons_zero, List.set_cons_succ, List.getElem_toArray, List.getElem_cons_zero, List.getElem_cons_succ])
        refine wpAnyH_ready (rs := [6, 9]) (by kernel_rfl) (by simp) ?_
        refine AllReadyH.cons rfl (fun K hK => ?_) ?_
        · go_simp
          refine (Copy.toState s1 s2 s3 t1 t2 t3 S _ (HS.out.below (below_then HB.out HR.out)) m7 m8 m9).mono ?_
          rintro e wk2 ⟨p1, p2, p3, rfl, hb, hcp, -⟩
          have HR := Hid.mk (below_then HR.out hb)
          (try have KC := Hid.mk (KC.out.below hb))
          (try have KI := Hid.mk (KI.out.below hb))
          (try have KS := Hid.mk (KS.out.below hb))
          (try have SW := Hid.mk (SW.out.below hb))
          (try have AV := Hid.mk (blk_below AV.out hb))
          have KS := Hid.mk hcp
          refine hK.out _ _ ?_ (fun hHeld => ?_)
          · exact ⟨cell_keep hb hHeld.1, cell_keep hb hHeld.2.1, cell_keep hb hHeld.2.2.1, cell_keep hb hHeld.2.2.2.1, cell_keep hb hHeld.2.2.2.2.1, cell_keep hb hHeld.2.2.2.2.2.1, cell_keep hb hHeld.2.2.2.2.2.2.1, cell_keep hb hHeld.2.2.2.2.2.2.2.1, cell_keep hb hHeld.2.2.2.2.2.2.2.2.1, cell_keep hb hHeld.2.2.2.2.2.2.2.2.2.1, cell_keep hb hHeld.2.2.2.2.2.2.2.2.2.2.1, cell_keep hb hHeld.2.2.2.2.2.2.2.2.2.2.2.1, cell_keep hb hHeld.2.2.2.2.2.2.2.2.2.2.2.2.1, cell_keep hb hHeld.2.2.2.2.2.2.2.2.2.2.2.2.2.1, cell_keep hb hHeld.2.2.2.2.2.2.2.2.2.2.2.2.2.2.1, cell_keep hb hHeld.2.2.2.2.2.2.2.2.2.2.2.2.2.2.2.1, cell_keep hb hHeld.2.2.2.2.2.2.2.2.2.2.2.2.2.2.2.2⟩
          clear hK K
          (try simp only [Act.put, List.setIfInBounds_toArray, List.set_cons_zero, List.set_cons_succ, List.getElem_toArray, List.getElem_cons_zero, List.getElem_cons_succ])
          refine wpAnyH_ready (rs := [8, 9]) (by kernel_rfl) (by simp) ?_
          refine AllReadyH.cons rfl (fun K hK => ?_) ?_
          · go_simp
            refine (specS _ _ _ _ _ _ _ _ _ _ _ _ _ _ _ _ _ _ C I v S n W HW.out _ KC.out KI.out KS.out m1 m2 m3 m4 m5 m6 m7 m8 m9 (Nat.le_refl _)).mono ?_
            rintro e wk9 ⟨y1, y2, y3, z1, z2, z3, rfl, hst, hb, hfr⟩
            (try have FR := Hid.mk (Mac.far_new hfr (blk_lt AV.out)))
            have HR := Hid.mk (below_then HR.out hb)
            (try have KC := Hid.mk (KC.out.below hb))
            (try have KI := Hid.mk (KI.out.below hb))
            (try have KS := Hid.mk (KS.out.below hb))
            (try have SW := Hid.mk (SW.out.below hb))
            (try have AV := Hid.mk (blk_below AV.out hb))
            have SW := Hid.mk hst
            refine hK.out _ _ ?_ (fun hHeld => ?_)
            · exact ⟨cell_keep hb hHeld.1, cell_keep hb hHeld.2.1, cell_keep hb hHeld.2.2.1, cell_keep hb hHeld.2.2.2.1, cell_keep hb hHeld.2.2.2.2.1, cell_keep hb hHeld.2.2.2.2.2.1, cell_keep hb hHeld.2.2.2.2.2.2.1, cell_keep hb hHeld.2.2.2.2.2.2.2.1, cell_keep hb hHeld.2.2.2.2.2.2.2.2.1, cell_keep hb hHeld.2.2.2.2.2.2.2.2.2.1, cell_keep hb hHeld.2.2.2.2.2.2.2.2.2.2.1, cell_keep hb hHeld.2.2.2.2.2.2.2.2.2.2.2.1, cell_keep hb hHeld.2.2.2.2.2.2.2.2.2.2.2.2.1, cell_keep hb hHeld.2.2.2.2.2.2.2.2.2.2.2.2.2.1, cell_keep hb hHeld.2.2.2.2.2.2.2.2.2.2.2.2.2.2.1, cell_keep hb hHeld.2.2.2.2.2.2.2.2.2.2.2.2.2.2.2.1, cell_keep hb hHeld.2.2.2.2.2.2.2.2.2.2.2.2.2.2.2.2⟩
            clear hK K
            (try simp only [Act.put, List.setIfInBounds_toArray, List.set_cons_zero, List.set_cons_succ, List.getElem_toArray, List.getElem_cons_zero, List.getElem_cons_succ])
            refine wpAnyH_ready (rs := [9]) (by kernel_rfl) (by simp) ?_
            refine AllReadyH.cons rfl (fun K hK => ?_) ?_
            · go_simp
              (try have FR := Hid.mk (Mac.far_lt SW.out))
              have AV := Hid.mk (Mac.mblk_of HR.out (.cells #[.int .i64 0, .int .i64 0, .int .i64 0, .int .i64 0, .int .i64 0, .int .i64 0, .slice none 0 0, .slice none 0 0, .slice none 0 0] 34))
              have hV := Hid.mk HR.out.size
              have hV2 := Hid.mk (Nat.lt_of_lt_of_le hwb.out hV.out)
              have HR := Hid.mk (HR.out.alloc HR.out.size (.cells #[.int .i64 0, .int .i64 0, .int .i64 0, .int .i64 0, .int .i64 0, .int .i64 0, .slice none 0 0, .slice none 0 0, .slice none 0 0] 34))
              (try have KC := Hid.mk (KC.out.below ((Below.refl _ _).alloc (Nat.le_refl _) (.cells #[.int .i64 0, .int .i64 0, .int .i64 0, .int .i64 0, .int .i64 0, .int .i64 0, .slice none 0 0, .slice none 0 0, .slice none 0 0] 34))))
              (try have KI := Hid.mk (KI.out.below ((Below.refl _ _).alloc (Nat.le_refl _) (.cells #[.int .i64 0, .int .i64 0, .int .i64 0, .int .i64 0, .int .i64 0, .int .i64 0, .slice none 0 0, .slice none 0 0, .slice none 0 0] 34))))
              (try have KS := Hid.mk (KS.out.below ((Below.refl _ _).alloc (Nat.le_refl _) (.cells #[.int .i64 0, .int .i64 0, .int .i64 0, .int .i64 0, .int .i64 0, .int .i64 0, .slice none 0 0, .slice none 0 0, .slice none 0 0] 34))))
              (try have SW := Hid.mk (SW.out.below ((Below.refl _ _).alloc (Nat.le_refl _) (.cells #[.int .i64 0, .int .i64 0, .int .i64 0, .int .i64 0, .int .i64 0, .int .i64 0, .slice none 0 0, .slice none 0 0, .slice none 0 0] 34))))
              refine hK.out _ _ ?_ (fun hHeld => ?_)
              · exact ⟨cell_alloc' hHeld.1 _, cell_alloc' hHeld.2.1 _, cell_alloc' hHeld.2.2.1 _, cell_alloc' hHeld.2.2.2.1 _, cell_alloc' hHeld.2.2.2.2.1 _, cell_alloc' hHeld.2.2.2.2.2.1 _, cell_alloc' hHeld.2.2.2.2.2.2.1 _, cell_alloc' hHeld.2.2.2.2.2.2.2.1 _, cell_alloc' hHeld.2.2.2.2.2.2.2.2.1 _, cell_alloc' hHeld.2.2.2.2.2.2.2.2.2.1 _, cell_alloc' hHeld.2.2.2.2.2.2.2.2.2.2.1 _, cell_alloc' hHeld.2.2.2.2.2.2.2.2.2.2.2.1 _, cell_alloc' hHeld.2.2.2.2.2.2.2.2.2.2.2.2.1 _, cell_alloc' hHeld.2.2.2.2.2.2.2.2.2.2.2.2.2.1 _, cell_alloc' hHeld.2.2.2.2.2.2.2.2.2.2.2.2.2.2.1 _, cell_alloc' hHeld.2.2.2.2.2.2.2.2.2.2.2.2.2.2.2.1 _, cell_alloc' hHeld.2.2.2.2.2.2.2.2.2.2.2.2.2.2.2.2 _⟩
              clear hK K
              (try simp only [Act.put, List.setIfInBounds_toArray, List.set_cons_zero, List.set_cons_succ, List.getElem_toArray, List.getElem_cons_zero, List.getElem_cons_succ])
              refine wpAnyH_ready (rs := [10]) (by kernel_rfl) (by simp) ?_
              refine AllReadyH.cons rfl (fun K hK => ?_) ?_
              · rw [if_pos (by rfl)]
                refine wp_store_row _ _ _ rfl _ #[.int .i64 W.p, .int .i64 W.r, .int .i64 W.d, .int .i64 W.t, .int .i64 W.s, .int .i64 W.l, .slice y1 W.n1 z1, .slice y2 W.n2 z2, .slice y3 W.n3 z3] rfl rfl _ _ AV.out Mac.infoSt rfl (by simp [Value.oneCell']) ?_
                refine hK.out _ _ ?_ (fun hHeld => ?_)
                · exact ⟨Mac.mcell_srow hHeld.1 (by have h1 := hV2.out; first | omega | (simp only [World.drew] at h1 ⊢; omega)), Mac.mcell_srow hHeld.2.1 (by have h1 := hV2.out; first | omega | (simp only [World.drew] at h1 ⊢; omega)), Mac.mcell_srow hHeld.2.2.1 (by have h1 := hV2.out; first | omega | (simp only [World.drew] at h1 ⊢; omega)), Mac.mcell_srow hHeld.2.2.2.1 (by have h1 := hV2.out; first | omega | (simp only [World.drew] at h1 ⊢; omega)), Mac.mcell_srow hHeld.2.2.2.2.1 (by have h1 := hV2.out; first | omega | (simp only [World.drew] at h1 ⊢; omega)), Mac.mcell_srow hHeld.2.2.2.2.2.1 (by have h1 := hV2.out; first | omega | (simp only [World.drew] at h1 ⊢; omega)), Mac.mcell_srow hHeld.2.2.2.2.2.2.1 (by have h1 := hV2.out; first | omega | (simp only [World.drew] at h1 ⊢; omega)), Mac.mcell_srow hHeld.2.2.2.2.2.2.2.1 (by have h1 := hV2.out; first | omega | (simp only [World.drew] at h1 ⊢; omega)), Mac.mcell_srow hHeld.2.2.2.2.2.2.2.2.1 (by have h1 := hV2.out; first | omega | (simp only [World.drew] at h1 ⊢; omega)), Mac.mcell_srow hHeld.2.2.2.2.2.2.2.2.2.1 (by have h1 := hV2.out; first | omega | (simp only [World.drew] at h1 ⊢; omega)), Mac.mcell_srow hHeld.2.2.2.2.2.2.2.2.2.2.1 (by have h1 := hV2.out; first | omega | (simp only [World.drew] at h1 ⊢; omega)), Mac.mcell_srow hHeld.2.2.2.2.2.2.2.2.2.2.2.1 (by have h1 := hV2.out; first | omega | (simp only [World.drew] at h1 ⊢; omega)), Mac.mcell_srow hHeld.2.2.2.2.2.2.2.2.2.2.2.2.1 (by have h1 := hV2.out; first | omega | (simp only [World.drew] at h1 ⊢; omega)), Mac.mcell_srow hHeld.2.2.2.2.2.2.2.2.2.2.2.2.2.1 (by have h1 := hV2.out; first | omega | (simp only [World.drew] at h1 ⊢; omega)), Mac.mcell_srow hHeld.2.2.2.2.2.2.2.2.2.2.2.2.2.2.1 (by have h1 := hV2.out; first | omega | (simp only [World.drew] at h1 ⊢; omega)), Mac.mcell_srow hHeld.2.2.2.2.2.2.2.2.2.2.2.2.2.2.2.1 (by have h1 := hV2.out; first | omega | (simp only [World.drew] at h1 ⊢; omega)), Mac.mcell_srow hHeld.2.2.2.2.2.2.2.2.2.2.2.2.2.2.2.2 (by have h1 := hV2.out; first | omega | (simp only [World.drew] at h1 ⊢; omega))⟩
                clear hK K
                (try simp only [Act.put, List.setIfInBounds_toArray, List.set_cons_zero, List.set_cons_succ, List.getElem_toArray, List.getElem_cons_zero, List.getElem_cons_succ])
                refine wpAnyH_done (by kernel_rfl) ?_ _
                go_wp2_with fail
                go_meet
                exact ⟨_, y1, y2, y3, z1, z2, z3, rfl, Hid.mk (Mac.row_below HR.out hV.out _), Hid.mk (Mac.row_self AV.out _), Hid.mk (Mac.st_row SW.out FR.out _)⟩
              exact AllReadyH.nil
            exact AllReadyH.nil
          refine AllReadyH.cons rfl (fun K hK => ?_) ?_
          · go_simp
            (try have FR := Hid.mk (Mac.far_lt SW.out))
            have AV := Hid.mk (Mac.mblk_of HR.out (.cells #[.int .i64 0, .int .i64 0, .int .i64 0, .int .i64 0, .int .i64 0, .int .i64 0, .slice none 0 0, .slice none 0 0, .slice none 0 0] 34))
            have hV := Hid.mk HR.out.size
            have hV2 := Hid.mk (Nat.lt_of_lt_of_le hwb.out hV.out)
            have HR := Hid.mk (HR.out.alloc HR.out.size (.cells #[.int .i64 0, .int .i64 0, .int .i64 0, .int .i64 0, .int .i64 0, .int .i64 0, .slice none 0 0, .slice none 0 0, .slice none 0 0] 34))
            (try have KC := Hid.mk (KC.out.below ((Below.refl _ _).alloc (Nat.le_refl _) (.cells #[.int .i64 0, .int .i64 0, .int .i64 0, .int .i64 0, .int .i64 0, .int .i64 0, .slice none 0 0, .slice none 0 0, .slice none 0 0] 34))))
            (try have KI := Hid.mk (KI.out.below ((Below.refl _ _).alloc (Nat.le_refl _) (.cells #[.int .i64 0, .int .i64 0, .int .i64 0, .int .i64 0, .int .i64 0, .int .i64 0, .slice none 0 0, .slice none 0 0, .slice none 0 0] 34))))
            (try have KS := Hid.mk (KS.out.below ((Below.refl _ _).alloc (Nat.le_refl _) (.cells #[.int .i64 0, .int .i64 0, .int .i64 0, .int .i64 0, .int .i64 0, .int .i64 0, .slice none 0 0, .slice none 0 0, .slice none 0 0] 34))))
            (try have SW := Hid.mk (SW.out.below ((Below.refl _ _).alloc (Nat.le_refl _) (.cells #[.int .i64 0, .int .i64 0, .int .i64 0, .int .i64 0, .int .i64 0, .int .i64 0, .slice none 0 0, .slice none 0 0, .slice none 0 0] 34))))
            refine hK.out _ _ ?_ (fun hHeld => ?_)
            · exact ⟨cell_alloc' hHeld.1 _, cell_alloc' hHeld.2.1 _, cell_alloc' hHeld.2.2.1 _, cell_alloc' hHeld.2.2.2.1 _, cell_alloc' hHeld.2.2.2.2.1 _, cell_alloc' hHeld.2.2.2.2.2.1 _, cell_alloc' hHeld.2.2.2.2.2.2.1 _, cell_alloc' hHeld.2.2.2.2.2.2.2.1 _, cell_alloc' hHeld.2.2.2.2.2.2.2.2.1 _, cell_alloc' hHeld.2.2.2.2.2.2.2.2.2.1 _, cell_alloc' hHeld.2.2.2.2.2.2.2.2.2.2.1 _, cell_alloc' hHeld.2.2.2.2.2.2.2.2.2.2.2.1 _, cell_alloc' hHeld.2.2.2.2.2.2.2.2.2.2.2.2.1 _, cell_alloc' hHeld.2.2.2.2.2.2.2.2.2.2.2.2.2.1 _, cell_alloc' hHeld.2.2.2.2.2.2.2.2.2.2.2.2.2.2.1 _, cell_alloc' hHeld.2.2.2.2.2.2.2.2.2.2.2.2.2.2.2.1 _, cell_alloc' hHeld.2.2.2.2.2.2.2.2.2.2.2.2.2.2.2.2 _⟩
            clear hK K
            (try simp only [Act.put, List.setIfInBounds_toArray, List.set_cons_zero, List.set_cons_succ, List.getElem_toArray, List.getElem_cons_zero, List.getElem_cons_succ])
            refine wpAnyH_ready (rs := [8]) (by kernel_rfl) (by simp) ?_
            refine AllReadyH.cons rfl (fun K hK => ?_) ?_
            · go_simp
              refine (specS _ _ _ _ _ _ _ _ _ _ _ _ _ _ _ _ _ _ C I v S n W HW.out _ KC.out KI.out KS.out m1 m2 m3 m4 m5 m6 m7 m8 m9 (Nat.le_refl _)).mono ?_
              rintro e wk9 ⟨y1, y2, y3, z1, z2, z3, rfl, hst, hb, hfr⟩
              (try have FR := Hid.mk (Mac.far_new hfr (blk_lt AV.out)))
              have HR := Hid.mk (below_then HR.out hb)
              (try have KC := Hid.mk (KC.out.below hb))
              (try have KI := Hid.mk (KI.out.below hb))
              (try have KS := Hid.mk (KS.out.below hb))
              (try have SW := Hid.mk (SW.out.below hb))
              (try have AV := Hid.mk (blk_below AV.out hb))
              have SW := Hid.mk hst
              refine hK.out _ _ ?_ (fun hHeld => ?_)
              · exact ⟨cell_keep hb hHeld.1, cell_keep hb hHeld.2.1, cell_keep hb hHeld.2.2.1, cell_keep hb hHeld.2.2.2.1, cell_keep hb hHeld.2.2.2.2.1, cell_keep hb hHeld.2.2.2.2.2.1, cell_keep hb hHeld.2.2.2.2.2.2.1, cell_keep hb hHeld.2.2.2.2.2.2.2.1, cell_keep hb hHeld.2.2.2.2.2.2.2.2.1, cell_keep hb hHeld.2.2.2.2.2.2.2.2.2.1, cell_keep hb hHeld.2.2.2.2.2.2.2.2.2.2.1, cell_keep hb hHeld.2.2.2.2.2.2.2.2.2.2.2.1, cell_keep hb hHeld.2.2.2.2.2.2.2.2.2.2.2.2.1, cell_keep hb hHeld.2.2.2.2.2.2.2.2.2.2.2.2.2.1, cell_keep hb hHeld.2.2.2.2.2.2.2.2.2.2.2.2.2.2.1, cell_keep hb hHeld.2.2.2.2.2.2.2.2.2.2.2.2.2.2.2.1, cell_keep hb hHeld.2.2.2.2.2.2.2.2.2.2.2.2.2.2.2.2⟩
              clear hK K
              (try simp only [Act.put, List.setIfInBounds_toArray, List.set_cons_zero, List.set_cons_succ, List.getElem_toArray, List.getElem_cons_zero, List.getElem_cons_succ])
              refine wpAnyH_ready (rs := [10]) (by kernel_rfl) (by simp) ?_
              refine AllReadyH.cons rfl (fun K hK => ?_) ?_
              · rw [if_pos (by rfl)]
                refine wp_store_row _ _ _ rfl _ #[.int .i64 W.p, .int .i64 W.r, .int .i64 W.d, .int .i64 W.t, .int .i64 W.s, .int .i64 W.l, .slice y1 W.n1 z1, .slice y2 W.n2 z2, .slice y3 W.n3 z3] rfl rfl _ _ AV.out Mac.infoSt rfl (by simp [Value.oneCell']) ?_
                refine hK.out _ _ ?_ (fun hHeld => ?_)
                · exact ⟨Mac.mcell_srow hHeld.1 (by have h1 := hV2.out; first | omega | (simp only [World.drew] at h1 ⊢; omega)), Mac.mcell_srow hHeld.2.1 (by have h1 := hV2.out; first | omega | (simp only [World.drew] at h1 ⊢; omega)), Mac.mcell_srow hHeld.2.2.1 (by have h1 := hV2.out; first | omega | (simp only [World.drew] at h1 ⊢; omega)), Mac.mcell_srow hHeld.2.2.2.1 (by have h1 := hV2.out; first | omega | (simp only [World.drew] at h1 ⊢; omega)), Mac.mcell_srow hHeld.2.2.2.2.1 (by have h1 := hV2.out; first | omega | (simp only [World.drew] at h1 ⊢; omega)), Mac.mcell_srow hHeld.2.2.2.2.2.1 (by have h1 := hV2.out; first | omega | (simp only [World.drew] at h1 ⊢; omega)), Mac.mcell_srow hHeld.2.2.2.2.2.2.1 (by have h1 := hV2.out; first | omega | (simp only [World.drew] at h1 ⊢; omega)), Mac.mcell_srow hHeld.2.2.2.2.2.2.2.1 (by have h1 := hV2.out; first | omega | (simp only [World.drew] at h1 ⊢; omega)), Mac.mcell_srow hHeld.2.2.2.2.2.2.2.2.1 (by have h1 := hV2.out; first | omega | (simp only [World.drew] at h1 ⊢; omega)), Mac.mcell_srow hHeld.2.2.2.2.2.2.2.2.2.1 (by have h1 := hV2.out; first | omega | (simp only [World.drew] at h1 ⊢; omega)), Mac.mcell_srow hHeld.2.2.2.2.2.2.2.2.2.2.1 (by have h1 := hV2.out; first | omega | (simp only [World.drew] at h1 ⊢; omega)), Mac.mcell_srow hHeld.2.2.2.2.2.2.2.2.2.2.2.1 (by have h1 := hV2.out; first | omega | (simp only [World.drew] at h1 ⊢; omega)), Mac.mcell_srow hHeld.2.2.2.2.2.2.2.2.2.2.2.2.1 (by have h1 := hV2.out; first | omega | (simp only [World.drew] at h1 ⊢; omega)), Mac.mcell_srow hHeld.2.2.2.2.2.2.2.2.2.2.2.2.2.1 (by have h1 := hV2.out; first | omega | (simp only [World.drew] at h1 ⊢; omega)), Mac.mcell_srow hHeld.2.2.2.2.2.2.2.2.2.2.2.2.2.2.1 (by have h1 := hV2.out; first | omega | (simp only [World.drew] at h1 ⊢; omega)), Mac.mcell_srow hHeld.2.2.2.2.2.2.2.2.2.2.2.2.2.2.2.1 (by have h1 := hV2.out; first | omega | (simp only [World.drew] at h1 ⊢; omega)), Mac.mcell_srow hHeld.2.2.2.2.2.2.2.2.2.2.2.2.2.2.2.2 (by have h1 := hV2.out; first | omega | (simp only [World.drew] at h1 ⊢; omega))⟩
                clear hK K
                (try simp only [Act.put, List.setIfInBounds_toArray, List.set_cons_zero, List.set_cons_succ, List.getElem_toArray, List.getElem_cons_zero, List.getElem_cons_succ])
                refine wpAnyH_done (by kernel_rfl) ?_ _
                go_wp2_with fail
                go_meet
                exact ⟨_, y1, y2, y3, z1, z2, z3, rfl, Hid.mk (Mac.row_below HR.out hV.out _), Hid.mk (Mac.row_self AV.out _), Hid.mk (Mac.st_row SW.out FR.out _)⟩
              exact AllReadyH.nil
            exact AllReadyH.nil
          exact AllReadyH.nil
        refine AllReadyH.cons rfl (fun K hK => ?_) ?_
        · go_simp
          (try have FR := Hid.mk (Mac.far_lt SW.out))
          have AV := Hid.mk (Mac.mblk_of HR.out (.cells #[.int .i64 0, .int .i64 0, .int .i64 0, .int .i64 0, .int .i64 0, .int .i64 0, .slice none 0 0, .slice none 0 0, .slice none 0 0] 34))
          have hV := Hid.mk HR.out.size
          have hV2 := Hid.mk (Nat.lt_of_lt_of_le hwb.out hV.out)
          have HR := Hid.mk (HR.out.alloc HR.out.size (.cells #[.int .i64 0, .int .i64 0, .int .i64 0, .int .i64 0, .int .i64 0, .int .i64 0, .slice none 0 0, .slice none 0 0, .slice none 0 0] 34))
          (try have KC := Hid.mk (KC.out.below ((Below.refl _ _).alloc (Nat.le_refl _) (.cells #[.int .i64 0, .int .i64 0, .int .i64 0, .int .i64 0, .int .i64 0, .int .i64 0, .slice none 0 0, .slice none 0 0, .slice none 0 0] 34))))
          (try have KI := Hid.mk (KI.out.below ((Below.refl _ _).alloc (Nat.le_refl _) (.cells #[.int .i64 0, .int .i64 0, .int .i64 0, .int .i64 0, .int .i64 0, .int .i64 0, .slice none 0 0, .slice none 0 0, .slice none 0 0] 34))))
          (try have KS := Hid.mk (KS.out.below ((Below.refl _ _).alloc (Nat.le_refl _) (.cells #[.int .i64 0, .int .i64 0, .int .i64 0, .int .i64 0, .int .i64 0, .int .i64 0, .slice none 0 0, .slice none 0 0, .slice none 0 0] 34))))
          (try have SW := Hid.mk (SW.out.below ((Below.refl _ _).alloc (Nat.le_refl _) (.cells #[.int .i64 0, .int .i64 0, .int .i64 0, .int .i64 0, .int .i64 0, .int .i64 0, .slice none 0 0, .slice none 0 0, .slice none 0 0] 34))))
          refine hK.out _ _ ?_ (fun hHeld => ?_)
          · exact ⟨cell_alloc' hHeld.1 _, cell_alloc' hHeld.2.1 _, cell_alloc' hHeld.2.2.1 _, cell_alloc' hHeld.2.2.2.1 _, cell_alloc' hHeld.2.2.2.2.1 _, cell_alloc' hHeld.2.2.2.2.2.1 _, cell_alloc' hHeld.2.2.2.2.2.2.1 _, cell_alloc' hHeld.2.2.2.2.2.2.2.1 _, cell_alloc' hHeld.2.2.2.2.2.2.2.2.1 _, cell_alloc' hHeld.2.2.2.2.2.2.2.2.2.1 _, cell_alloc' hHeld.2.2.2.2.2.2.2.2.2.2.1 _, cell_alloc' hHeld.2.2.2.2.2.2.2.2.2.2.2.1 _, cell_alloc' hHeld.2.2.2.2.2.2.2.2.2.2.2.2.1 _, cell_alloc' hHeld.2.2.2.2.2.2.2.2.2.2.2.2.2.1 _, cell_alloc' hHeld.2.2.2.2.2.2.2.2.2.2.2.2.2.2.1 _, cell_alloc' hHeld.2.2.2.2.2.2.2.2.2.2.2.2.2.2.2.1 _, cell_alloc' hHeld.2.2.2.2.2.2.2.2.2.2.2.2.2.2.2.2 _⟩
          clear hK K
          (try simp only [Act.put, List.setIfInBounds_toArray, List.set_cons_zero, List.set_cons_succ, List.getElem_toArray, List.getElem_cons_zero, List.getElem_cons_succ])
          refine wpAnyH_ready (rs := [6]) (by kernel_rfl) (by simp) ?_
          refine AllReadyH.cons rfl (fun K hK => ?_) ?_
          · go_simp
            refine (Copy.toState s1 s2 s3 t1 t2 t3 S _ (HS.out.below (below_then HB.out HR.out)) m7 m8 m9).mono ?_
            rintro e wk2 ⟨p1, p2, p3, rfl, hb, hcp, -⟩
            have HR := Hid.mk (below_then HR.out hb)
            (try have KC := Hid.mk (KC.out.below hb))
            (try have KI := Hid.mk (KI.out.below hb))
            (try have KS := Hid.mk (KS.out.below hb))
            (try have SW := Hid.mk (SW.out.below hb))
            (try have AV := Hid.mk (blk_below AV.out hb))
            have KS := Hid.mk hcp
            refine hK.out _ _ ?_ (fun hHeld => ?_)
            · exact ⟨cell_keep hb hHeld.1, cell_keep hb hHeld.2.1, cell_keep hb hHeld.2.2.1, cell_keep hb hHeld.2.2.2.1, cell_keep hb hHeld.2.2.2.2.1, cell_keep hb hHeld.2.2.2.2.2.1, cell_keep hb hHeld.2.2.2.2.2.2.1, cell_keep hb hHeld.2.2.2.2.2.2.2.1, cell_keep hb hHeld.2.2.2.2.2.2.2.2.1, cell_keep hb hHeld.2.2.2.2.2.2.2.2.2.1, cell_keep hb hHeld.2.2.2.2.2.2.2.2.2.2.1, cell_keep hb hHeld.2.2.2.2.2.2.2.2.2.2.2.1, cell_keep hb hHeld.2.2.2.2.2.2.2.2.2.2.2.2.1, cell_keep hb hHeld.2.2.2.2.2.2.2.2.2.2.2.2.2.1, cell_keep hb hHeld.2.2.2.2.2.2.2.2.2.2.2.2.2.2.1, cell_keep hb hHeld.2.2.2.2.2.2.2.2.2.2.2.2.2.2.2.1, cell_keep hb hHeld.2.2.2.2.2.2.2.2.2.2.2.2.2.2.2.2⟩
            clear hK K
            (try simp only [Act.put, List.setIfInBounds_toArray, List.set_cons_zero, List.set_cons_succ, List.getElem_toArray, List.getElem_cons_zero, List.getElem_cons_succ])
            refine wpAnyH_ready (rs := [8]) (by kernel_rfl) (by simp) ?_
            refine AllReadyH.cons rfl (fun K hK => ?_) ?_
            · go_simp
              refine (specS _ _ _ _ _ _ _ _ _ _ _ _ _ _ _ _ _ _ C I v S n W HW.out _ KC.out KI.out KS.out m1 m2 m3 m4 m5 m6 m7 m8 m9 (Nat.le_refl _)).mono ?_
              rintro e wk9 ⟨y1, y2, y3, z1, z2, z3, rfl, hst, hb, hfr⟩
              (try have FR := Hid.mk (Mac.far_new hfr (blk_lt AV.out)))
              have HR := Hid.mk (below_then HR.out hb)
              (try have KC := Hid.mk (KC.out.below hb))
              (try have KI := Hid.mk (KI.out.below hb))
              (try have KS := Hid.mk (KS.out.below hb))
              (try have SW := Hid.mk (SW.out.below hb))
              (try have AV := Hid.mk (blk_below AV.out hb))
              have SW := Hid.mk hst
              refine hK.out _ _ ?_ (fun hHeld => ?_)
              · exact ⟨cell_keep hb hHeld.1, cell_keep hb hHeld.2.1, cell_keep hb hHeld.2.2.1, cell_keep hb hHeld.2.2.2.1, cell_keep hb hHeld.2.2.2.2.1, cell_keep hb hHeld.2.2.2.2.2.1, cell_keep hb hHeld.2.2.2.2.2.2.1, cell_keep hb hHeld.2.2.2.2.2.2.2.1, cell_keep hb hHeld.2.2.2.2.2.2.2.2.1, cell_keep hb hHeld.2.2.2.2.2.2.2.2.2.1, cell_keep hb hHeld.2.2.2.2.2.2.2.2.2.2.1, cell_keep hb hHeld.2.2.2.2.2.2.2.2.2.2.2.1, cell_keep hb hHeld.2.2.2.2.2.2.2.2.2.2.2.2.1, cell_keep hb hHeld.2.2.2.2.2.2.2.2.2.2.2.2.2.1, cell_keep hb hHeld.2.2.2.2.2.2.2.2.2.2.2.2.2.2.1, cell_keep hb hHeld.2.2.2.2.2.2.2.2.2.2.2.2.2.2.2.1, cell_keep hb hHeld.2.2.2.2.2.2.2.2.2.2.2.2.2.2.2.2⟩
              clear hK K
              (try simp only [Act.put, List.setIfInBounds_toArray, List.set_cons_zero, List.set_cons_succ, List.getElem_toArray, List.getElem_cons_zero, List.getElem_cons_succ])
              refine wpAnyH_ready (rs := [10]) (by kernel_rfl) (by simp) ?_
              refine AllReadyH.cons rfl (fun K hK => ?_) ?_
              · rw [if_pos (by rfl)]
                refine wp_store_row _ _ _ rfl _ #[.int .i64 W.p, .int .i64 W.r, .int .i64 W.d, .int .i64 W.t, .int .i64 W.s, .int .i64 W.l, .slice y1 W.n1 z1, .slice y2 W.n2 z2, .slice y3 W.n3 z3] rfl rfl _ _ AV.out Mac.infoSt rfl (by simp [Value.oneCell']) ?_
                refine hK.out _ _ ?_ (fun hHeld => ?_)
                · exact ⟨Mac.mcell_srow hHeld.1 (by have h1 := hV2.out; first | omega | (simp only [World.drew] at h1 ⊢; omega)), Mac.mcell_srow hHeld.2.1 (by have h1 := hV2.out; first | omega | (simp only [World.drew] at h1 ⊢; omega)), Mac.mcell_srow hHeld.2.2.1 (by have h1 := hV2.out; first | omega | (simp only [World.drew] at h1 ⊢; omega)), Mac.mcell_srow hHeld.2.2.2.1 (by have h1 := hV2.out; first | omega | (simp only [World.drew] at h1 ⊢; omega)), Mac.mcell_srow hHeld.2.2.2.2.1 (by have h1 := hV2.out; first | omega | (simp only [World.drew] at h1 ⊢; omega)), Mac.mcell_srow hHeld.2.2.2.2.2.1 (by have h1 := hV2.out; first | omega | (simp only [World.drew] at h1 ⊢; omega)), Mac.mcell_srow hHeld.2.2.2.2.2.2.1 (by have h1 := hV2.out; first | omega | (simp only [World.drew] at h1 ⊢; omega)), Mac.mcell_srow hHeld.2.2.2.2.2.2.2.1 (by have h1 := hV2.out; first | omega | (simp only [World.drew] at h1 ⊢; omega)), Mac.mcell_srow hHeld.2.2.2.2.2.2.2.2.1 (by have h1 := hV2.out; first | omega | (simp only [World.drew] at h1 ⊢; omega)), Mac.mcell_srow hHeld.2.2.2.2.2.2.2.2.2.1 (by have h1 := hV2.out; first | omega | (simp only [World.drew] at h1 ⊢; omega)), Mac.mcell_srow hHeld.2.2.2.2.2.2.2.2.2.2.1 (by have h1 := hV2.out; first | omega | (simp only [World.drew] at h1 ⊢; omega)), Mac.mcell_srow hHeld.2.2.2.2.2.2.2.2.2.2.2.1 (by have h1 := hV2.out; first | omega | (simp only [World.drew] at h1 ⊢; omega)), Mac.mcell_srow hHeld.2.2.2.2.2.2.2.2.2.2.2.2.1 (by have h1 := hV2.out; first | omega | (simp only [World.drew] at h1 ⊢; omega)), Mac.mcell_srow hHeld.2.2.2.2.2.2.2.2.2.2.2.2.2.1 (by have h1 := hV2.out; first | omega | (simp only [World.drew] at h1 ⊢; omega)), Mac.mcell_srow hHeld.2.2.2.2.2.2.2.2.2.2.2.2.2.2.1 (by have h1 := hV2.out; first | omega | (simp only [World.drew] at h1 ⊢; omega)), Mac.mcell_srow hHeld.2.2.2.2.2.2.2.2.2.2.2.2.2.2.2.1 (by have h1 := hV2.out; first | omega | (simp only [World.drew] at h1 ⊢; omega)), Mac.mcell_srow hHeld.2.2.2.2.2.2.2.2.2.2.2.2.2.2.2.2 (by have h1 := hV2.out; first | omega | (simp only [World.drew] at h1 ⊢; omega))⟩
                clear hK K
                (try simp only [Act.put, List.setIfInBounds_toArray, List.set_cons_zero, List.set_cons_succ, List.getElem_toArray, List.getElem_cons_zero, List.getElem_cons_succ])
                refine wpAnyH_done (by kernel_rfl) ?_ _
                go_wp2_with fail
                go_meet
                exact ⟨_, y1, y2, y3, z1, z2, z3, rfl, Hid.mk (Mac.row_below HR.out hV.out _), Hid.mk (Mac.row_self AV.out _), Hid.mk (Mac.st_row SW.out FR.out _)⟩
              exact AllReadyH.nil
            exact AllReadyH.nil
          exact AllReadyH.nil
        exact AllReadyH.nil
      refine AllReadyH.cons rfl (fun K hK => ?_) ?_
      · go_simp
        (try have FR := Hid.mk (Mac.far_lt SW.out))
        have AV := Hid.mk (Mac.mblk_of HR.out (.cells #[.int .i64 0, .int .i64 0, .int .i64 0, .int .i64 0, .int .i64 0, .int .i64 0, .slice none 0 0, .slice none 0 0, .slice none 0 0] 34))
        have hV := Hid.mk HR.out.size
        have hV2 := Hid.mk (Nat.lt_of_lt_of_le hwb.out hV.out)
        have HR := Hid.mk (HR.out.alloc HR.out.size (.cells #[.int .i64 0, .int .i64 0, .int .i64 0, .int .i64 0, .int .i64 0, .int .i64 0, .slice none 0 0, .slice none 0 0, .slice none 0 0] 34))
        (try have KC := Hid.mk (KC.out.below ((Below.refl _ _).alloc (Nat.le_refl _) (.cells #[.int .i64 0, .int .i64 0, .int .i64 0, .int .i64 0, .int .i64 0, .int .i64 0, .slice none 0 0, .slice none 0 0, .slice none 0 0] 34))))
        (try have KI := Hid.mk (KI.out.below ((Below.refl _ _).alloc (Nat.le_refl _) (.cells #[.int .i64 0, .int .i64 0, .int .i64 0, .int .i64 0, .int .i64 0, .int .i64 0, .slice none 0 0, .slice none 0 0, .slice none 0 0] 34))))
        (try have KS := Hid.mk (KS.out.below ((Below.refl _ _).alloc (Nat.le_refl _) (.cells #[.int .i64 0, .int .i64 0, .int .i64 0, .int .i64 0, .int .i64 0, .int .i64 0, .slice none 0 0, .slice none 0 0, .slice none 0 0] 34))))
        (try have SW := Hid.mk (SW.out.below ((Below.refl _ _).alloc (Nat.le_refl _) (.cells #[.int .i64 0, .int .i64 0, .int .i64 0, .int .i64 0, .int .i64 0, .int .i64 0, .slice none 0 0, .slice none 0 0, .slice none 0 0] 34))))
        refine hK.out _ _ ?_ (fun hHeld => ?_)
        · exact ⟨cell_alloc' hHeld.1 _, cell_alloc' hHeld.2.1 _, cell_alloc' hHeld.2.2.1 _, cell_alloc' hHeld.2.2.2.1 _, cell_alloc' hHeld.2.2.2.2.1 _, cell_alloc' hHeld.2.2.2.2.2.1 _, cell_alloc' hHeld.2.2.2.2.2.2.1 _, cell_alloc' hHeld.2.2.2.2.2.2.2.1 _, cell_alloc' hHeld.2.2.2.2.2.2.2.2.1 _, cell_alloc' hHeld.2.2.2.2.2.2.2.2.2.1 _, cell_alloc' hHeld.2.2.2.2.2.2.2.2.2.2.1 _, cell_alloc' hHeld.2.2.2.2.2.2.2.2.2.2.2.1 _, cell_alloc' hHeld.2.2.2.2.2.2.2.2.2.2.2.2.1 _, cell_alloc' hHeld.2.2.2.2.2.2.2.2.2.2.2.2.2.1 _, cell_alloc' hHeld.2.2.2.2.2.2.2.2.2.2.2.2.2.2.1 _, cell_alloc' hHeld.2.2.2.2.2.2.2.2.2.2.2.2.2.2.2.1 _, cell_alloc' hHeld.2.2.2.2.2.2.2.2.2.2.2.2.2.2.2.2 _⟩
        clear hK K
        (try simp only [Act.put, List.setIfInBounds_toArray, List.set_cons_zero, List.set_cons_succ, List.getElem_toArray, List.getElem_cons_zero, List.getElem_cons_succ])
        refine wpAnyH_ready (rs := [3]) (by kernel_rfl) (by simp) ?_
        refine AllReadyH.cons rfl (fun K hK => ?_) ?_
        · go_simp
          refine (Copy.toInst b1 b2 b3 d1 d2 d3 I _ (HI.out.below (below_then HB.out HR.out)) m4 m5 m6).mono ?_
          rintro e wk1 ⟨p1, p2, p3, rfl, hb, hcp, -⟩
          have HR := Hid.mk (below_then HR.out hb)
          (try have KC := Hid.mk (KC.out.below hb))
          (try have KI := Hid.mk (KI.out.below hb))
          (try have KS := Hid.mk (KS.out.below hb))
          (try have SW := Hid.mk (SW.out.below hb))
          (try have AV := Hid.mk (blk_below AV.out hb))
          have KI := Hid.mk hcp
          refine hK.out _ _ ?_ (fun hHeld => ?_)
          · exact ⟨cell_keep hb hHeld.1, cell_keep hb hHeld.2.1, cell_keep hb hHeld.2.2.1, cell_keep hb hHeld.2.2.2.1, cell_keep hb hHeld.2.2.2.2.1, cell_keep hb hHeld.2.2.2.2.2.1, cell_keep hb hHeld.2.2.2.2.2.2.1, cell_keep hb hHeld.2.2.2.2.2.2.2.1, cell_keep hb hHeld.2.2.2.2.2.2.2.2.1, cell_keep hb hHeld.2.2.2.2.2.2.2.2.2.1, cell_keep hb hHeld.2.2.2.2.2.2.2.2.2.2.1, cell_keep hb hHeld.2.2.2.2.2.2.2.2.2.2.2.1, cell_keep hb hHeld.2.2.2.2.2.2.2.2.2.2.2.2.1, cell_keep hb hHeld.2.2.2.2.2.2.2.2.2.2.2.2.2.1, cell_keep hb hHeld.2.2.2.2.2.2.2.2.2.2.2.2.2.2.1, cell_keep hb hHeld.2.2.2.2.2.2.2.2.2.2.2.2.2.2.2.1, cell_keep hb hHeld.2.2.2.2.2.2.2.2.2.2.2.2.2.2.2.2⟩
          clear hK K
          (try simp only [Act.put, List.setIfInBounds_toArray, List.set_cons_zero, List.set_cons_succ, List.getElem_toArray, List.getElem_cons_zero, List.getElem_cons_succ])
          refine wpAnyH_ready (rs := [6]) (by kernel_rfl) (by simp) ?_
          refine AllReadyH.cons rfl (fun K hK => ?_) ?_
          · go_simp
            refine (Copy.toState s1 s2 s3 t1 t2 t3 S _ (HS.out.below (below_then HB.out HR.out)) m7 m8 m9).mono ?_
            rintro e wk2 ⟨p1, p2, p3, rfl, hb, hcp, -⟩
            have HR := Hid.mk (below_then HR.out hb)
            (try have KC := Hid.mk (KC.out.below hb))
            (try have KI := Hid.mk (KI.out.below hb))
            (try have KS := Hid.mk (KS.out.below hb))
            (try have SW := Hid.mk (SW.out.below hb))
            (try have AV := Hid.mk (blk_below AV.out hb))
            have KS := Hid.mk hcp
            refine hK.out _ _ ?_ (fun hHeld => ?_)
            · exact ⟨cell_keep hb hHeld.1, cell_keep hb hHeld.2.1, cell_keep hb hHeld.2.2.1, cell_keep hb hHeld.2.2.2.1, cell_keep hb hHeld.2.2.2.2.1, cell_keep hb hHeld.2.2.2.2.2.1, cell_keep hb hHeld.2.2.2.2.2.2.1, cell_keep hb hHeld.2.2.2.2.2.2.2.1, cell_keep hb hHeld.2.2.2.2.2.2.2.2.1, cell_keep hb hHeld.2.2.2.2.2.2.2.2.2.1, cell_keep hb hHeld.2.2.2.2.2.2.2.2.2.2.1, cell_keep hb hHeld.2.2.2.2.2.2.2.2.2.2.2.1, cell_keep hb hHeld.2.2.2.2.2.2.2.2.2.2.2.2.1, cell_keep hb hHeld.2.2.2.2.2.2.2.2.2.2.2.2.2.1, cell_keep hb hHeld.2.2.2.2.2.2.2.2.2.2.2.2.2.2.1, cell_keep hb hHeld.2.2.2.2.2.2.2.2.2.2.2.2.2.2.2.1, cell_keep hb hHeld.2.2.2.2.2.2.2.2.2.2.2.2.2.2.2.2⟩
            clear hK K
            (try simp only [Act.put, List.setIfInBounds_toArray, List.set_cons_zero, List.set_cons_succ, List.getElem_toArray, List.getElem_cons_zero, List.getElem_cons_succ])
            refine wpAnyH_ready (rs := [8]) (by kernel_rfl) (by simp) ?_
            refine AllReadyH.cons rfl (fun K hK => ?_) ?_
            · go_simp
              refine (specS _ _ _ _ _ _ _ _ _ _ _ _ _ _ _ _ _ _ C I v S n W HW.out _ KC.out KI.out KS.out m1 m2 m3 m4 m5 m6 m7 m8 m9 (Nat.le_refl _)).mono ?_
              rintro e wk9 ⟨y1, y2, y3, z1, z2, z3, rfl, hst, hb, hfr⟩
              (try have FR := Hid.mk (Mac.far_new hfr (blk_lt AV.out)))
              have HR := Hid.mk (below_then HR.out hb)
              (try have KC := Hid.mk (KC.out.below hb))
              (try have KI := Hid.mk (KI.out.below hb))
              (try have KS := Hid.mk (KS.out.below hb))
              (try have SW := Hid.mk (SW.out.below hb))
              (try have AV := Hid.mk (blk_below AV.out hb))
              have SW := Hid.mk hst
              refine hK.out _ _ ?_ (fun hHeld => ?_)
              · exact ⟨cell_keep hb hHeld.1, cell_keep hb hHeld.2.1, cell_keep hb hHeld.2.2.1, cell_keep hb hHeld.2.2.2.1, cell_keep hb hHeld.2.2.2.2.1, cell_keep hb hHeld.2.2.2.2.2.1, cell_keep hb hHeld.2.2.2.2.2.2.1, cell_keep hb hHeld.2.2.2.2.2.2.2.1, cell_keep hb hHeld.2.2.2.2.2.2.2.2.1, cell_keep hb hHeld.2.2.2.2.2.2.2.2.2.1, cell_keep hb hHeld.2.2.2.2.2.2.2.2.2.2.1, cell_keep hb hHeld.2.2.2.2.2.2.2.2.2.2.2.1, cell_keep hb hHeld.2.2.2.2.2.2.2.2.2.2.2.2.1, cell_keep hb hHeld.2.2.2.2.2.2.2.2.2.2.2.2.2.1, cell_keep hb hHeld.2.2.2.2.2.2.2.2.2.2.2.2.2.2.1, cell_keep hb hHeld.2.2.2.2.2.2.2.2.2.2.2.2.2.2.2.1, cell_keep hb hHeld.2.2.2.2.2.2.2.2.2.2.2.2.2.2.2.2⟩
              clear hK K
              (try simp only [Act.put, List.setIfInBounds_toArray, List.set_cons_zero, List.set_cons_succ, List.getElem_toArray, List.getElem_cons_zero, List.getElem_cons_succ])
              refine wpAnyH_ready (rs := [10]) (by kernel_rfl) (by simp) ?_
              refine AllReadyH.cons rfl (fun K hK => ?_) ?_
              · rw [if_pos (by rfl)]
                refine wp_store_row _ _ _ rfl _ #[.int .i64 W.p, .int .i64 W.r, .int .i64 W.d, .int .i64 W.t, .int .i64 W.s, .int .i64 W.l, .slice y1 W.n1 z1, .slice y2 W.n2 z2, .slice y3 W.n3 z3] rfl rfl _ _ AV.out Mac.infoSt rfl (by simp [Value.oneCell']) ?_
                refine hK.out _ _ ?_ (fun hHeld => ?_)
                · exact ⟨Mac.mcell_srow hHeld.1 (by have h1 := hV2.out; first | omega | (simp only [World.drew] at h1 ⊢; omega)), Mac.mcell_srow hHeld.2.1 (by have h1 := hV2.out; first | omega | (simp only [World.drew] at h1 ⊢; omega)), Mac.mcell_srow hHeld.2.2.1 (by have h1 := hV2.out; first | omega | (simp only [World.drew] at h1 ⊢; omega)), Mac.mcell_srow hHeld.2.2.2.1 (by have h1 := hV2.out; first | omega | (simp only [World.drew] at h1 ⊢; omega)), Mac.mcell_srow hHeld.2.2.2.2.1 (by have h1 := hV2.out; first | omega | (simp only [World.drew] at h1 ⊢; omega)), Mac.mcell_srow hHeld.2.2.2.2.2.1 (by have h1 := hV2.out; first | omega | (simp only [World.drew] at h1 ⊢; omega)), Mac.mcell_srow hHeld.2.2.2.2.2.2.1 (by have h1 := hV2.out; first | omega | (simp only [World.drew] at h1 ⊢; omega)), Mac.mcell_srow hHeld.2.2.2.2.2.2.2.1 (by have h1 := hV2.out; first | omega | (simp only [World.drew] at h1 ⊢; omega)), Mac.mcell_srow hHeld.2.2.2.2.2.2.2.2.1 (by have h1 := hV2.out; first | omega | (simp only [World.drew] at h1 ⊢; omega)), Mac.mcell_srow hHeld.2.2.2.2.2.2.2.2.2.1 (by have h1 := hV2.out; first | omega | (simp only [World.drew] at h1 ⊢; omega)), Mac.mcell_srow hHeld.2.2.2.2.2.2.2.2.2.2.1 (by have h1 := hV2.out; first | omega | (simp only [World.drew] at h1 ⊢; omega)), Mac.mcell_srow hHeld.2.2.2.2.2.2.2.2.2.2.2.1 (by have h1 := hV2.out; first | omega | (simp only [World.drew] at h1 ⊢; omega)), Mac.mcell_srow hHeld.2.2.2.2.2.2.2.2.2.2.2.2.1 (by have h1 := hV2.out; first | omega | (simp only [World.drew] at h1 ⊢; omega)), Mac.mcell_srow hHeld.2.2.2.2.2.2.2.2.2.2.2.2.2.1 (by have h1 := hV2.out; first | omega | (simp only [World.drew] at h1 ⊢; omega)), Mac.mcell_srow hHeld.2.2.2.2.2.2.2.2.2.2.2.2.2.2.1 (by have h1 := hV2.out; first | omega | (simp only [World.drew] at h1 ⊢; omega)), Mac.mcell_srow hHeld.2.2.2.2.2.2.2.2.2.2.2.2.2.2.2.1 (by have h1 := hV2.out; first | omega | (simp only [World.drew] at h1 ⊢; omega)), Mac.mcell_srow hHeld.2.2.2.2.2.2.2.2.2.2.2.2.2.2.2.2 (by have h1 := hV2.out; first | omega | (simp only [World.drew] at h1 ⊢; omega))⟩
                clear hK K
                (try simp only [Act.put, List.setIfInBounds_toArray, List.set_cons_zero, List.set_cons_succ, List.getElem_toArray, List.getElem_cons_zero, List.getElem_cons_succ])
                refine wpAnyH_done (by kernel_rfl) ?_ _
                go_wp2_with fail
                go_meet
                exact ⟨_, y1, y2, y3, z1, z2, z3, rfl, Hid.mk (Mac.row_below HR.out hV.out _), Hid.mk (Mac.row_self AV.out _), Hid.mk (Mac.st_row SW.out FR.out _)⟩
              exact AllReadyH.nil
            exact AllReadyH.nil
          exact AllReadyH.nil
        exact AllReadyH.nil
      exact AllReadyH.nil
    refine AllReadyH.cons rfl (fun K hK => ?_) ?_
    · go_simp
      (try have FR := Hid.mk (Mac.far_lt SW.out))
      have AV := Hid.mk (Mac.mblk_of HR.out (.cells #[.int .i64 0, .int .i64 0, .int .i64 0, .int .i64 0, .int .i64 0, .int .i64 0, .slice none 0 0, .slice none 0 0, .slice none 0 0] 34))
      have hV := Hid.mk HR.out.size
      have hV2 := Hid.mk (Nat.lt_of_lt_of_le hwb.out hV.out)
      have HR := Hid.mk (HR.out.alloc HR.out.size (.cells #[.int .i64 0, .int .i64 0, .int .i64 0, .int .i64 0, .int .i64 0, .int .i64 0, .slice none 0 0, .slice none 0 0, .slice none 0 0] 34))
      (try have KC := Hid.mk (KC.out.below ((Below.refl _ _).alloc (Nat.le_refl _) (.cells #[.int .i64 0, .int .i64 0, .int .i64 0, .int .i64 0, .int .i64 0, .int .i64 0, .slice none 0 0, .slice none 0 0, .slice none 0 0] 34))))
      (try have KI := Hid.mk (KI.out.below ((Below.refl _ _).alloc (Nat.le_refl _) (.cells #[.int .i64 0, .int .i64 0, .int .i64 0, .int .i64 0, .int .i64 0, .int .i64 0, .slice none 0 0, .slice none 0 0, .slice none 0 0] 34))))
      (try have KS := Hid.mk (KS.out.below ((Below.refl _ _).alloc (Nat.le_refl _) (.cells #[.int .i64 0, .int .i64 0, .int .i64 0, .int .i64 0, .int .i64 0, .int .i64 0, .slice none 0 0, .slice none 0 0, .slice none 0 0] 34))))
      (try have SW := Hid.mk (SW.out.below ((Below.refl _ _).alloc (Nat.le_refl _) (.cells #[.int .i64 0, .int .i64 0, .int .i64 0, .int .i64 0, .int .i64 0, .int .i64 0, .slice none 0 0, .slice none 0 0, .slice none 0 0] 34))))
      refine hK.out _ _ ?_ (fun hHeld => ?_)
      · exact ⟨cell_alloc' hHeld.1 _, cell_alloc' hHeld.2.1 _, cell_alloc' hHeld.2.2.1 _, cell_alloc' hHeld.2.2.2.1 _, cell_alloc' hHeld.2.2.2.2.1 _, cell_alloc' hHeld.2.2.2.2.2.1 _, cell_alloc' hHeld.2.2.2.2.2.2.1 _, cell_alloc' hHeld.2.2.2.2.2.2.2.1 _, cell_alloc' hHeld.2.2.2.2.2.2.2.2.1 _, cell_alloc' hHeld.2.2.2.2.2.2.2.2.2.1 _, cell_alloc' hHeld.2.2.2.2.2.2.2.2.2.2.1 _, cell_alloc' hHeld.2.2.2.2.2.2.2.2.2.2.2.1 _, cell_alloc' hHeld.2.2.2.2.2.2.2.2.2.2.2.2.1 _, cell_alloc' hHeld.2.2.2.2.2.2.2.2.2.2.2.2.2.1 _, cell_alloc' hHeld.2.2.2.2.2.2.2.2.2.2.2.2.2.2.1 _, cell_alloc' hHeld.2.2.2.2.2.2.2.2.2.2.2.2.2.2.2.1 _, cell_alloc' hHeld.2.2.2.2.2.2.2.2.2.2.2.2.2.2.2.2 _⟩
      clear hK K
      (try simp only [Act.put, List.setIfInBounds_toArray, List.set_cons_zero, List.set_cons_succ, List.getElem_toArray, List.getElem_cons_zero, List.getElem_cons_succ])
      refine wpAnyH_ready (rs := [1]) (by kernel_rfl) (by simp) ?_
      refine AllReadyH.cons rfl (fun K hK => ?_) ?_
      · go_simp
        refine (Copy.toCode a1 a2 a3 c1 c2 c3 C _ (HC.out.below (below_then HB.out HR.out)) m1 m2 m3).mono ?_
        rintro e wk0 ⟨p1, p2, p3, rfl, hb, hcp, -⟩
        have HR := Hid.mk (below_then HR.out hb)
        (try have KC := Hid.mk (KC.out.below hb))
        (try have KI := Hid.mk (KI.out.below hb))
        (try have KS := Hid.mk (KS.out.below hb))
        (try have SW := Hid.mk (SW.out.below hb))
        (try have AV := Hid.mk (blk_below AV.out hb))
        have KC := Hid.mk hcp
        refine hK.out _ _ ?_ (fun hHeld => ?_)
        · exact ⟨cell_keep hb hHeld.1, cell_keep hb hHeld.2.1, cell_keep hb hHeld.2.2.1, cell_keep hb hHeld.2.2.2.1, cell_keep hb hHeld.2.2.2.2.1, cell_keep hb hHeld.2.2.2.2.2.1, cell_keep hb hHeld.2.2.2.2.2.2.1, cell_keep hb hHeld.2.2.2.2.2.2.2.1, cell_keep hb hHeld.2.2.2.2.2.2.2.2.1, cell_keep hb hHeld.2.2.2.2.2.2.2.2.2.1, cell_keep hb hHeld.2.2.2.2.2.2.2.2.2.2.1, cell_keep hb hHeld.2.2.2.2.2.2.2.2.2.2.2.1, cell_keep hb hHeld.2.2.2.2.2.2.2.2.2.2.2.2.1, cell_keep hb hHeld.2.2.2.2.2.2.2.2.2.2.2.2.2.1, cell_keep hb hHeld.2.2.2.2.2.2.2.2.2.2.2.2.2.2.1, cell_keep hb hHeld.2.2.2.2.2.2.2.2.2.2.2.2.2.2.2.1, cell_keep hb hHeld.2.2.2.2.2.2.2.2.2.2.2.2.2.2.2.2⟩
        clear hK K
        (try simp only [Act.put, List.setIfInBounds_toArray, List.set_cons_zero, List.set_cons_succ, List.getElem_toArray, List.getElem_cons_zero, List.getElem_cons_succ])
        refine wpAnyH_ready (rs := [3]) (by kernel_rfl) (by simp) ?_
        refine AllReadyH.cons rfl (fun K hK => ?_) ?_
        · go_simp
          refine (Copy.toInst b1 b2 b3 d1 d2 d3 I _ (HI.out.below (below_then HB.out HR.out)) m4 m5 m6).mono ?_
          rintro e wk1 ⟨p1, p2, p3, rfl, hb, hcp, -⟩
          have HR := Hid.mk (below_then HR.out hb)
          (try have KC := Hid.mk (KC.out.below hb))
          (try have KI := Hid.mk (KI.out.below hb))
          (try have KS := Hid.mk (KS.out.below hb))
          (try have SW := Hid.mk (SW.out.below hb))
          (try have AV := Hid.mk (blk_below AV.out hb))
          have KI := Hid.mk hcp
          refine hK.out _ _ ?_ (fun hHeld => ?_)
          · exact ⟨cell_keep hb hHeld.1, cell_keep hb hHeld.2.1, cell_keep hb hHeld.2.2.1, cell_keep hb hHeld.2.2.2.1, cell_keep hb hHeld.2.2.2.2.1, cell_keep hb hHeld.2.2.2.2.2.1, cell_keep hb hHeld.2.2.2.2.2.2.1, cell_keep hb hHeld.2.2.2.2.2.2.2.1, cell_keep hb hHeld.2.2.2.2.2.2.2.2.1, cell_keep hb hHeld.2.2.2.2.2.2.2.2.2.1, cell_keep hb hHeld.2.2.2.2.2.2.2.2.2.2.1, cell_keep hb hHeld.2.2.2.2.2.2.2.2.2.2.2.1, cell_keep hb hHeld.2.2.2.2.2.2.2.2.2.2.2.2.1, cell_keep hb hHeld.2.2.2.2.2.2.2.2.2.2.2.2.2.1, cell_keep hb hHeld.2.2.2.2.2.2.2.2.2.2.2.2.2.2.1, cell_keep hb hHeld.2.2.2.2.2.2.2.2.2.2.2.2.2.2.2.1, cell_keep hb hHeld.2.2.2.2.2.2.2.2.2.2.2.2.2.2.2.2⟩
          clear hK K
          (try simp only [Act.put, List.setIfInBounds_toArray, List.set_cons_zero, List.set_cons_succ, List.getElem_toArray, List.getElem_cons_zero, List.getElem_cons_succ])
          refine wpAnyH_ready (rs := [6]) (by kernel_rfl) (by simp) ?_
          refine AllReadyH.cons rfl (fun K hK => ?_) ?_
          · go_simp
            refine (Copy.toState s1 s2 s3 t1 t2 t3 S _ (HS.out.below (below_then HB.out HR.out)) m7 m8 m9).mono ?_
            rintro e wk2 ⟨p1, p2, p3, rfl, hb, hcp, -⟩
            have HR := Hid.mk (below_then HR.out hb)
            (try have KC := Hid.mk (KC.out.below hb))
            (try have KI := Hid.mk (KI.out.below hb))
            (try have KS := Hid.mk (KS.out.below hb))
            (try have SW := Hid.mk (SW.out.below hb))
            (try have AV := Hid.mk (blk_below AV.out hb))
            have KS := Hid.mk hcp
            refine hK.out _ _ ?_ (fun hHeld => ?_)
            · exact ⟨cell_keep hb hHeld.1, cell_keep hb hHeld.2.1, cell_keep hb hHeld.2.2.1, cell_keep hb hHeld.2.2.2.1, cell_keep hb hHeld.2.2.2.2.1, cell_keep hb hHeld.2.2.2.2.2.1, cell_keep hb hHeld.2.2.2.2.2.2.1, cell_keep hb hHeld.2.2.2.2.2.2.2.1, cell_keep hb hHeld.2.2.2.2.2.2.2.2.1, cell_keep hb hHeld.2.2.2.2.2.2.2.2.2.1, cell_keep hb hHeld.2.2.2.2.2.2.2.2.2.2.1, cell_keep hb hHeld.2.2.2.2.2.2.2.2.2.2.2.1, cell_keep hb hHeld.2.2.2.2.2.2.2.2.2.2.2.2.1, cell_keep hb hHeld.2.2.2.2.2.2.2.2.2.2.2.2.2.1, cell_keep hb hHeld.2.2.2.2.2.2.2.2.2.2.2.2.2.2.1, cell_keep hb hHeld.2.2.2.2.2.2.2.2.2.2.2.2.2.2.2.1, cell_keep hb hHeld.2.2.2.2.2.2.2.2.2.2.2.2.2.2.2.2⟩
            clear hK K
            (try simp only [Act.put, List.setIfInBounds_toArray, List.set_cons_zero, List.set_cons_succ, List.getElem_toArray, List.getElem_cons_zero, List.getElem_cons_succ])
            refine wpAnyH_ready (rs := [8]) (by kernel_rfl) (by simp) ?_
            refine AllReadyH.cons rfl (fun K hK => ?_) ?_
            · go_simp
              refine (specS _ _ _ _ _ _ _ _ _ _ _ _ _ _ _ _ _ _ C I v S n W HW.out _ KC.out KI.out KS.out m1 m2 m3 m4 m5 m6 m7 m8 m9 (Nat.le_refl _)).mono ?_
              rintro e wk9 ⟨y1, y2, y3, z1, z2, z3, rfl, hst, hb, hfr⟩
              (try have FR := Hid.mk (Mac.far_new hfr (blk_lt AV.out)))
              have HR := Hid.mk (below_then HR.out hb)
              (try have KC := Hid.mk (KC.out.below hb))
              (try have KI := Hid.mk (KI.out.below hb))
              (try have KS := Hid.mk (KS.out.below hb))
              (try have SW := Hid.mk (SW.out.below hb))
              (try have AV := Hid.mk (blk_below AV.out hb))
              have SW := Hid.mk hst
              refine hK.out _ _ ?_ (fun hHeld => ?_)
              · exact ⟨cell_keep hb hHeld.1, cell_keep hb hHeld.2.1, cell_keep hb hHeld.2.2.1, cell_keep hb hHeld.2.2.2.1, cell_keep hb hHeld.2.2.2.2.1, cell_keep hb hHeld.2.2.2.2.2.1, cell_keep hb hHeld.2.2.2.2.2.2.1, cell_keep hb hHeld.2.2.2.2.2.2.2.1, cell_keep hb hHeld.2.2.2.2.2.2.2.2.1, cell_keep hb hHeld.2.2.2.2.2.2.2.2.2.1, cell_keep hb hHeld.2.2.2.2.2.2.2.2.2.2.1, cell_keep hb hHeld.2.2.2.2.2.2.2.2.2.2.2.1, cell_keep hb hHeld.2.2.2.2.2.2.2.2.2.2.2.2.1, cell_keep hb hHeld.2.2.2.2.2.2.2.2.2.2.2.2.2.1, cell_keep hb hHeld.2.2.2.2.2.2.2.2.2.2.2.2.2.2.1, cell_keep hb hHeld.2.2.2.2.2.2.2.2.2.2.2.2.2.2.2.1, cell_keep hb hHeld.2.2.2.2.2.2.2.2.2.2.2.2.2.2.2.2⟩
              clear hK K
              (try simp only [Act.put, List.setIfInBounds_toArray, List.set_cons_zero, List.set_cons_succ, List.getElem_toArray, List.getElem_cons_zero, List.getElem_cons_succ])
              refine wpAnyH_ready (rs := [10]) (by kernel_rfl) (by simp) ?_
              refine AllReadyH.cons rfl (fun K hK => ?_) ?_
              · rw [if_pos (by rfl)]
                refine wp_store_row _ _ _ rfl _ #[.int .i64 W.p, .int .i64 W.r, .int .i64 W.d, .int .i64 W.t, .int .i64 W.s, .int .i64 W.l, .slice y1 W.n1 z1, .slice y2 W.n2 z2, .slice y3 W.n3 z3] rfl rfl _ _ AV.out Mac.infoSt rfl (by simp [Value.oneCell']) ?_
                refine hK.out _ _ ?_ (fun hHeld => ?_)
                · exact ⟨Mac.mcell_srow hHeld.1 (by have h1 := hV2.out; first | omega | (simp only [World.drew] at h1 ⊢; omega)), Mac.mcell_srow hHeld.2.1 (by have h1 := hV2.out; first | omega | (simp only [World.drew] at h1 ⊢; omega)), Mac.mcell_srow hHeld.2.2.1 (by have h1 := hV2.out; first | omega | (simp only [World.drew] at h1 ⊢; omega)), Mac.mcell_srow hHeld.2.2.2.1 (by have h1 := hV2.out; first | omega | (simp only [World.drew] at h1 ⊢; omega)), Mac.mcell_srow hHeld.2.2.2.2.1 (by have h1 := hV2.out; first | omega | (simp only [World.drew] at h1 ⊢; omega)), Mac.mcell_srow hHeld.2.2.2.2.2.1 (by have h1 := hV2.out; first | omega | (simp only [World.drew] at h1 ⊢; omega)), Mac.mcell_srow hHeld.2.2.2.2.2.2.1 (by have h1 := hV2.out; first | omega | (simp only [World.drew] at h1 ⊢; omega)), Mac.mcell_srow hHeld.2.2.2.2.2.2.2.1 (by have h1 := hV2.out; first | omega | (simp only [World.drew] at h1 ⊢; omega)), Mac.mcell_srow hHeld.2.2.2.2.2.2.2.2.1 (by have h1 := hV2.out; first | omega | (simp only [World.drew] at h1 ⊢; omega)), Mac.mcell_srow hHeld.2.2.2.2.2.2.2.2.2.1 (by have h1 := hV2.out; first | omega | (simp only [World.drew] at h1 ⊢; omega)), Mac.mcell_srow hHeld.2.2.2.2.2.2.2.2.2.2.1 (by have h1 := hV2.out; first | omega | (simp only [World.drew] at h1 ⊢; omega)), Mac.mcell_srow hHeld.2.2.2.2.2.2.2.2.2.2.2.1 (by have h1 := hV2.out; first | omega | (simp only [World.drew] at h1 ⊢; omega)), Mac.mcell_srow hHeld.2.2.2.2.2.2.2.2.2.2.2.2.1 (by have h1 := hV2.out; first | omega | (simp only [World.drew] at h1 ⊢; omega)), Mac.mcell_srow hHeld.2.2.2.2.2.2.2.2.2.2.2.2.2.1 (by have h1 := hV2.out; first | omega | (simp only [World.drew] at h1 ⊢; omega)), Mac.mcell_srow hHeld.2.2.2.2.2.2.2.2.2.2.2.2.2.2.1 (by have h1 := hV2.out; first | omega | (simp only [World.drew] at h1 ⊢; omega)), Mac.mcell_srow hHeld.2.2.2.2.2.2.2.2.2.2.2.2.2.2.2.1 (by have h1 := hV2.out; first | omega | (simp only [World.drew] at h1 ⊢; omega)), Mac.mcell_srow hHeld.2.2.2.2.2.2.2.2.2.2.2.2.2.2.2.2 (by have h1 := hV2.out; first | omega | (simp only [World.drew] at h1 ⊢; omega))⟩
                clear hK K
                (try simp only [Act.put, List.setIfInBounds_toArray, List.set_cons_zero, List.set_cons_succ, List.getElem_toArray, List.getElem_cons_zero, List.getElem_cons_succ])
                refine wpAnyH_done (by kernel_rfl) ?_ _
                go_wp2_with fail
                go_meet
                exact ⟨_, y1, y2, y3, z1, z2, z3, rfl, Hid.mk (Mac.row_below HR.out hV.out _), Hid.mk (Mac.row_self AV.out _), Hid.mk (Mac.st_row SW.out FR.out _)⟩
              exact AllReadyH.nil
            exact AllReadyH.nil
          exact AllReadyH.nil
        exact AllReadyH.nil
      exact AllReadyH.nil
    exact AllReadyH.nil
  case rest =>
    obtain ⟨V, y1, y2, y3, z1, z2, z3, rfl, BW, V0, SW⟩ := hcut
    rename World => wq
    have HBq := Hid.mk (below_then HB.out BW.out)
    have B0 := Hid.mk (blk_below A0.out BW.out)
    have B1 := Hid.mk (blk_below A1.out BW.out)
    have B2 := Hid.mk (blk_below A2.out BW.out)
    clear HB BW HSS hwb A0 A1 A2
    have A0 := B0
    have A1 := B1
    have A2 := B2
    clear B0 B1 B2
    have hVq := Hid.mk (blk_lt V0.out)
    have BQ_0 := Hid.mk (Below.refl wq.heap.size wq)
    have x0 := blk_cell (blk_below A0.out BQ_0.out) 0
    have x1 := blk_cell (blk_below A0.out BQ_0.out) 1
    have x2 := blk_cell (blk_below A0.out BQ_0.out) 2
    have x3 := blk_cell (blk_below A0.out BQ_0.out) 3
    have x4 := blk_cell (blk_below A0.out BQ_0.out) 4
    simp only [List.getElem?_toArray, List.getElem?_cons_zero, List.getElem?_cons_succ] at x0 x1 x2 x3 x4
    go_wp2_with fail
    clear x0 x1 x2 x3 x4
    refine (Copy.toCode a1 a2 a3 c1 c2 c3 C _ (HC.out.below (below_then HBq.out BQ_0.out)) m1 m2 m3).mono ?_
    rintro e cw0 ⟨q1, q2, q3, rfl, hb, hcp, ord0⟩
    have hg : Below cw0.heap.size cw0 (cw0.alloc (.cells #[.int .i64 C.R, .int .i64 C.S, .slice (some ⟨q1, 0, none⟩) C.n1 C.n1, .slice (some ⟨q2, 0, none⟩) C.n2 C.n2, .slice (some ⟨q3, 0, none⟩) C.n3 C.n3] 38)) := by go_grown
    have hb' := below_then hb hg
    have K0' := Hid.mk (hcp.below hg)
    have X0' := Hid.mk (blk_new cw0 (.cells #[.int .i64 C.R, .int .i64 C.S, .slice (some ⟨q1, 0, none⟩) C.n1 C.n1, .slice (some ⟨q2, 0, none⟩) C.n2 C.n2, .slice (some ⟨q3, 0, none⟩) C.n3 C.n3] 38))
    have T00' := Hid.mk (MarkS.there_bel ord0.2.2.2.2.1 hg)
    have T01' := Hid.mk (MarkS.there_bel ord0.2.2.2.2.2.1 hg)
    have T02' := Hid.mk (MarkS.there_bel ord0.2.2.2.2.2.2 hg)
    have od0 := Hid.mk (And.intro (Nat.le_trans BQ_0.out.size ord0.1) (And.intro ord0.2.1 (And.intro ord0.2.2.1 ord0.2.2.2.1)))
    have BQ_1 := Hid.mk (below_then BQ_0.out hb')
    clear BQ_0
    have K0_1 := K0'
    have X0_1 := X0'
    have T00_1 := T00'
    have T01_1 := T01'
    have T02_1 := T02'
    clear hb hb' hg hcp ord0 K0' X0' T00' T01' T02'
    have x0 := blk_cell (blk_below A1.out BQ_1.out) 0
    have x1 := blk_cell (blk_below A1.out BQ_1.out) 1
    have x2 := blk_cell (blk_below A1.out BQ_1.out) 2
    simp only [List.getElem?_toArray, List.getElem?_cons_zero, List.getElem?_cons_succ] at x0 x1 x2
    go_wp2_with fail
    clear x0 x1 x2
    refine (Copy.toInst b1 b2 b3 d1 d2 d3 I _ (HI.out.below (below_then HBq.out BQ_1.out)) m4 m5 m6).mono ?_
    rintro e cw1 ⟨o1, o2, o3, rfl, hb, hcp, ord1⟩
    have hg : Below cw1.heap.size cw1 (cw1.alloc (.cells #[.slice (some ⟨o1, 0, none⟩) I.nV I.nV, .slice (some ⟨o2, 0, none⟩) I.nQ I.nQ, .slice (some ⟨o3, 0, none⟩) I.nR I.nR] 44)) := by go_grown
    have hb' := below_then hb hg
    have K1' := Hid.mk (hcp.below hg)
    have X1' := Hid.mk (blk_new cw1 (.cells #[.slice (some ⟨o1, 0, none⟩) I.nV I.nV, .slice (some ⟨o2, 0, none⟩) I.nQ I.nQ, .slice (some ⟨o3, 0, none⟩) I.nR I.nR] 44))
    have T10' := Hid.mk (MarkS.there_bel ord1.2.2.2.2.1 hg)
    have T11' := Hid.mk (MarkS.there_bel ord1.2.2.2.2.2.1 hg)
    have T12' := Hid.mk (MarkS.there_bel ord1.2.2.2.2.2.2 hg)
    have od1 := Hid.mk (And.intro (show cw0.heap.size < o1 by have z := ord1.1; rw [World.size_alloc] at z; omega) (And.intro ord1.2.1 (And.intro ord1.2.2.1 ord1.2.2.2.1)))
    have BQ_2 := Hid.mk (below_then BQ_1.out hb')
    have K0_2 := Hid.mk (K0_1.out.below hb')
    have X0_2 := Hid.mk (blk_below X0_1.out hb')
    have T00_2 := Hid.mk (MarkS.there_bel T00_1.out hb')
    have T01_2 := Hid.mk (MarkS.there_bel T01_1.out hb')
    have T02_2 := Hid.mk (MarkS.there_bel T02_1.out hb')
    clear BQ_1 K0_1 X0_1 T00_1 T01_1 T02_1
    have K1_2 := K1'
    have X1_2 := X1'
    have T10_2 := T10'
    have T11_2 := T11'
    have T12_2 := T12'
    clear hb hb' hg hcp ord1 K1' X1' T10' T11' T12'
    have x0 := blk_cell (blk_below A2.out BQ_2.out) 0
    have x1 := blk_cell (blk_below A2.out BQ_2.out) 1
    have x2 := blk_cell (blk_below A2.out BQ_2.out) 2
    have x3 := blk_cell (blk_below A2.out BQ_2.out) 3
    have x4 := blk_cell (blk_below A2.out BQ_2.out) 4
    have x5 := blk_cell (blk_below A2.out BQ_2.out) 5
    have x6 := blk_cell (blk_below A2.out BQ_2.out) 6
    have x7 := blk_cell (blk_below A2.out BQ_2.out) 7
    have x8 := blk_cell (blk_below A2.out BQ_2.out) 8
    simp only [List.getElem?_toArray, List.getElem?_cons_zero, List.getElem?_cons_succ] at x0 x1 x2 x3 x4 x5 x6 x7 x8
    go_wp2_with fail
    clear x0 x1 x2 x3 x4 x5 x6 x7 x8
    refine (Copy.toState s1 s2 s3 t1 t2 t3 S _ (HS.out.below (below_then HBq.out BQ_2.out)) m7 m8 m9).mono ?_
    rintro e cw2 ⟨u1, u2, u3, rfl, hb, hcp, ord2⟩
    have hg : Below cw2.heap.size cw2 (cw2.alloc (.cells #[.int .i64 S.p, .int .i64 S.r, .int .i64 S.d, .int .i64 S.t, .int .i64 S.s, .int .i64 S.l, .slice (some ⟨u1, 0, none⟩) S.n1 S.n1, .slice (some ⟨u2, 0, none⟩) S.n2 S.n2, .slice (some ⟨u3, 0, none⟩) S.n3 S.n3] 34)) := by go_grown
    have hb' := below_then hb hg
    have K2' := Hid.mk (hcp.below hg)
    have X2' := Hid.mk (blk_new cw2 (.cells #[.int .i64 S.p, .int .i64 S.r, .int .i64 S.d, .int .i64 S.t, .int .i64 S.s, .int .i64 S.l, .slice (some ⟨u1, 0, none⟩) S.n1 S.n1, .slice (some ⟨u2, 0, none⟩) S.n2 S.n2, .slice (some ⟨u3, 0, none⟩) S.n3 S.n3] 34))
    have T20' := Hid.mk (MarkS.there_bel ord2.2.2.2.2.1 hg)
    have T21' := Hid.mk (MarkS.there_bel ord2.2.2.2.2.2.1 hg)
    have T22' := Hid.mk (MarkS.there_bel ord2.2.2.2.2.2.2 hg)
    have od2 := Hid.mk (And.intro (show cw1.heap.size < u1 by have z := ord2.1; rw [World.size_alloc] at z; omega) (And.intro ord2.2.1 (And.intro ord2.2.2.1 ord2.2.2.2.1)))
    have BQ_3 := Hid.mk (below_then BQ_2.out hb')
    have K0_3 := Hid.mk (K0_2.out.below hb')
    have X0_3 := Hid.mk (blk_below X0_2.out hb')
    have T00_3 := Hid.mk (MarkS.there_bel T00_2.out hb')
    have T01_3 := Hid.mk (MarkS.there_bel T01_2.out hb')
    have T02_3 := Hid.mk (MarkS.there_bel T02_2.out hb')
    have K1_3 := Hid.mk (K1_2.out.below hb')
    have X1_3 := Hid.mk (blk_below X1_2.out hb')
    have T10_3 := Hid.mk (MarkS.there_bel T10_2.out hb')
    have T11_3 := Hid.mk (MarkS.there_bel T11_2.out hb')
    have T12_3 := Hid.mk (MarkS.there_bel T12_2.out hb')
    clear BQ_2 K0_2 X0_2 T00_2 T01_2 T02_2 K1_2 X1_2 T10_2 T11_2 T12_2
    have K2_3 := K2'
    have X2_3 := X2'
    have T20_3 := T20'
    have T21_3 := T21'
    have T22_3 := T22'
    clear hb hb' hg hcp ord2 K2' X2' T20' T21' T22'
    have x0 := blk_cell X0_3.out 0
    have x1 := blk_cell X0_3.out 1
    have x2 := blk_cell X0_3.out 2
    have x3 := blk_cell X0_3.out 3
    have x4 := blk_cell X0_3.out 4
    have y0 := blk_cell X1_3.out 0
    have y1 := blk_cell X1_3.out 1
    have y2 := blk_cell X1_3.out 2
    have z0 := blk_cell X2_3.out 0
    have z1 := blk_cell X2_3.out 1
    have z2 := blk_cell X2_3.out 2
    have z3 := blk_cell X2_3.out 3
    have z4 := blk_cell X2_3.out 4
    have z5 := blk_cell X2_3.out 5
    have z6 := blk_cell X2_3.out 6
    have z7 := blk_cell X2_3.out 7
    have z8 := blk_cell X2_3.out 8
    simp only [List.getElem?_toArray, List.getElem?_cons_zero, List.getElem?_cons_succ] at x0 x1 x2 x3 x4 y0 y1 y2 z0 z1 z2 z3 z4 z5 z6 z7 z8
    go_wp2_with fail
    clear x0 x1 x2 x3 x4 y0 y1 y2 z0 z1 z2 z3 z4 z5 z6 z7 z8
    refine (implS _ _ _ _ _ _ _ _ _ _ _ _ _ _ _ _ _ _ C I v S n W HW.out _ K0_3.out K1_3.out K2_3.out m1 m2 m3 m4 m5 m6 m7 m8 m9 (HT.out.below (below_then HBq.out BQ_3.out))).mono ?_
    rintro e ce ⟨k1, k2, k3, e1, e2, e3, g1, g2, g3, rfl, hb0, hO⟩
    have hg := (Below.refl ce.heap.size ce).alloc (Nat.le_refl _) (.cells #[.int .i64 W.p, .int .i64 W.r, .int .i64 W.d, .int .i64 W.t, .int .i64 W.s, .int .i64 W.l, .slice k1 W.n1 e1, .slice k2 W.n2 e2, .slice k3 W.n3 e3] 34)
    have hb := below_then hb0 hg
    have VG' := Hid.mk (blk_new ce (.cells #[.int .i64 W.p, .int .i64 W.r, .int .i64 W.d, .int .i64 W.t, .int .i64 W.s, .int .i64 W.l, .slice k1 W.n1 e1, .slice k2 W.n2 e2, .slice k3 W.n3 e3] 34))
    have OW' := Hid.mk (hO.below hg)
    have hgc := Hid.mk (show cw2.heap.size < ce.heap.size by have z := hb0.size; rw [World.size_alloc] at z; omega)
    have hgl := Hid.mk (And.intro (fun h => MarkS.there_lt (Mac.rw_there hO.r1) h) (And.intro (fun h => MarkS.there_lt (Mac.rw_there hO.r2) h) (fun h => MarkS.there_lt (Mac.rw_there hO.r3) h)))
    have BQ_4 := Hid.mk (below_then BQ_3.out hb)
    have K0_4 := Hid.mk (K0_3.out.below hb)
    have X0_4 := Hid.mk (blk_below X0_3.out hb)
    have T00_4 := Hid.mk (MarkS.there_bel T00_3.out hb)
    have T01_4 := Hid.mk (MarkS.there_bel T01_3.out hb)
    have T02_4 := Hid.mk (MarkS.there_bel T02_3.out hb)
    have K1_4 := Hid.mk (K1_3.out.below hb)
    have X1_4 := Hid.mk (blk_below X1_3.out hb)
    have T10_4 := Hid.mk (MarkS.there_bel T10_3.out hb)
    have T11_4 := Hid.mk (MarkS.there_bel T11_3.out hb)
    have T12_4 := Hid.mk (MarkS.there_bel T12_3.out hb)
    have K2_4 := Hid.mk (K2_3.out.below hb)
    have X2_4 := Hid.mk (blk_below X2_3.out hb)
    have T20_4 := Hid.mk (MarkS.there_bel T20_3.out hb)
    have T21_4 := Hid.mk (MarkS.there_bel T21_3.out hb)
    have T22_4 := Hid.mk (MarkS.there_bel T22_3.out hb)
    clear BQ_3 K0_3 X0_3 T00_3 T01_3 T02_3 K1_3 X1_3 T10_3 T11_3 T12_3 K2_3 X2_3 T20_3 T21_3 T22_3
    have VG_4 := VG'
    have OW_4 := OW'
    clear hb hb0 hg hO VG' OW'
    have x0 := blk_cell VG_4.out 0
    have x1 := blk_cell VG_4.out 1
    have x2 := blk_cell VG_4.out 2
    have x3 := blk_cell VG_4.out 3
    have x4 := blk_cell VG_4.out 4
    have x5 := blk_cell VG_4.out 5
    have x6 := blk_cell VG_4.out 6
    have x7 := blk_cell VG_4.out 7
    have x8 := blk_cell VG_4.out 8
    have y0 := blk_cell (blk_below V0.out BQ_4.out) 0
    have y1 := blk_cell (blk_below V0.out BQ_4.out) 1
    have y2 := blk_cell (blk_below V0.out BQ_4.out) 2
    have y3 := blk_cell (blk_below V0.out BQ_4.out) 3
    have y4 := blk_cell (blk_below V0.out BQ_4.out) 4
    have y5 := blk_cell (blk_below V0.out BQ_4.out) 5
    have y6 := blk_cell (blk_below V0.out BQ_4.out) 6
    have y7 := blk_cell (blk_below V0.out BQ_4.out) 7
    have y8 := blk_cell (blk_below V0.out BQ_4.out) 8
    simp only [List.getElem?_toArray, List.getElem?_cons_zero, List.getElem?_cons_succ] at x0 x1 x2 x3 x4 x5 x6 x7 x8 y0 y1 y2 y3 y4 y5 y6 y7 y8
    go_wp2_with fail
    clear x0 x1 x2 x3 x4 x5 x6 x7 x8 y0 y1 y2 y3 y4 y5 y6 y7 y8
    refine (Eq.eqState _ _ _ _ _ _ _ _ _ _ _ _ W _ OW_4.out.st (SW.out.below BQ_4.out) LN.out.1 LN.out.2.1 LN.out.2.2).mono ?_
    rintro e dw0 ⟨rfl, hb⟩
    have BQ_5 := Hid.mk (below_then BQ_4.out hb)
    have K0_5 := Hid.mk (K0_4.out.below hb)
    have X0_5 := Hid.mk (blk_below X0_4.out hb)
    have T00_5 := Hid.mk (MarkS.there_bel T00_4.out hb)
    have T01_5 := Hid.mk (MarkS.there_bel T01_4.out hb)
    have T02_5 := Hid.mk (MarkS.there_bel T02_4.out hb)
    have K1_5 := Hid.mk (K1_4.out.below hb)
    have X1_5 := Hid.mk (blk_below X1_4.out hb)
    have T10_5 := Hid.mk (MarkS.there_bel T10_4.out hb)
    have T11_5 := Hid.mk (MarkS.there_bel T11_4.out hb)
    have T12_5 := Hid.mk (MarkS.there_bel T12_4.out hb)
    have K2_5 := Hid.mk (K2_4.out.below hb)
    have X2_5 := Hid.mk (blk_below X2_4.out hb)
    have T20_5 := Hid.mk (MarkS.there_bel T20_4.out hb)
    have T21_5 := Hid.mk (MarkS.there_bel T21_4.out hb)
    have T22_5 := Hid.mk (MarkS.there_bel T22_4.out hb)
    have VG_5 := Hid.mk (blk_below VG_4.out hb)
    have OW_5 := Hid.mk (OW_4.out.below hb)
    clear BQ_4 K0_4 X0_4 T00_4 T01_4 T02_4 K1_4 X1_4 T10_4 T11_4 T12_4 K2_4 X2_4 T20_4 T21_4 T22_4 VG_4 OW_4
    clear hb
    have x0 := blk_cell (blk_below A0.out BQ_5.out) 0
    have x1 := blk_cell (blk_below A0.out BQ_5.out) 1
    have x2 := blk_cell (blk_below A0.out BQ_5.out) 2
    have x3 := blk_cell (blk_below A0.out BQ_5.out) 3
    have x4 := blk_cell (blk_below A0.out BQ_5.out) 4
    have y0 := blk_cell X0_5.out 0
    have y1 := blk_cell X0_5.out 1
    have y2 := blk_cell X0_5.out 2
    have y3 := blk_cell X0_5.out 3
    have y4 := blk_cell X0_5.out 4
    simp only [List.getElem?_toArray, List.getElem?_cons_zero, List.getElem?_cons_succ] at x0 x1 x2 x3 x4 y0 y1 y2 y3 y4
    go_wp2_with fail
    have Kd : Hid (CoAt dw0.drew _ _ _ C) := K0_5.out.below (Below.refl _ _).drew
    have Hd : Hid (CoAt dw0.drew a1 a2 a3 C) := HC.out.below (below_then HBq.out BQ_5.out).drew
    go_region_held3 (fun w' => w'.cell? ⟨w.heap.size, 0, none⟩ = some (.int .i64 C.R) ∧ w'.cell? ⟨w.heap.size, 1, none⟩ = some (.int .i64 C.S) ∧ w'.cell? ⟨w.heap.size, 2, none⟩ = some (.slice a1 C.n1 c1) ∧ w'.cell? ⟨w.heap.size, 3, none⟩ = some (.slice a2 C.n2 c2) ∧ w'.cell? ⟨w.heap.size, 4, none⟩ = some (.slice a3 C.n3 c3) ∧ w'.cell? ⟨cw0.heap.size, 0, none⟩ = some (.int .i64 C.R) ∧ w'.cell? ⟨cw0.heap.size, 1, none⟩ = some (.int .i64 C.S) ∧ w'.cell? ⟨cw0.heap.size, 2, none⟩ = some (.slice (some ⟨q1, 0, none⟩) C.n1 C.n1) ∧ w'.cell? ⟨cw0.heap.size, 3, none⟩ = some (.slice (some ⟨q2, 0, none⟩) C.n2 C.n2) ∧ w'.cell? ⟨cw0.heap.size, 4, none⟩ = some (.slice (some ⟨q3, 0, none⟩) C.n3 C.n3))
      (first | go_keep | ((repeat' constructor) <;> first | exact cell_keep hb7 (by assumption) | exact cell_keep hb6 (by assumption) | exact cell_keep hb7 (by simp [*]; done) | exact cell_keep hb6 (by simp [*]; done)))
      ((first | (go_at_call 10; refine (Copy.toCode a1 a2 a3 c1 c2 c3 C _ Hd.out m1 m2 m3).mono ?_; rintro e dw1 ⟨e1', e2', e3', rfl, hb6, hI6, -⟩) | (go_at_call 14; refine (Eq.eqCode _ _ _ _ _ _ _ _ _ _ _ _ C _ (Kd.out.below hb6) hI6 m1 m2 m3).mono ?_; rintro e dw2 ⟨rfl, hb7⟩)))
    have hb8 := below_then (below_then ((Below.refl dw0.heap.size dw0).drew) hb6) hb7
    have BQ_6 := Hid.mk (below_then BQ_5.out hb8)
    have K0_6 := Hid.mk (K0_5.out.below hb8)
    have X0_6 := Hid.mk (blk_below X0_5.out hb8)
    have T00_6 := Hid.mk (MarkS.there_bel T00_5.out hb8)
    have T01_6 := Hid.mk (MarkS.there_bel T01_5.out hb8)
    have T02_6 := Hid.mk (MarkS.there_bel T02_5.out hb8)
    have K1_6 := Hid.mk (K1_5.out.below hb8)
    have X1_6 := Hid.mk (blk_below X1_5.out hb8)
    have T10_6 := Hid.mk (MarkS.there_bel T10_5.out hb8)
    have T11_6 := Hid.mk (MarkS.there_bel T11_5.out hb8)
    have T12_6 := Hid.mk (MarkS.there_bel T12_5.out hb8)
    have K2_6 := Hid.mk (K2_5.out.below hb8)
    have X2_6 := Hid.mk (blk_below X2_5.out hb8)
    have T20_6 := Hid.mk (MarkS.there_bel T20_5.out hb8)
    have T21_6 := Hid.mk (MarkS.there_bel T21_5.out hb8)
    have T22_6 := Hid.mk (MarkS.there_bel T22_5.out hb8)
    have VG_6 := Hid.mk (blk_below VG_5.out hb8)
    have OW_6 := Hid.mk (OW_5.out.below hb8)
    clear BQ_5 K0_5 X0_5 T00_5 T01_5 T02_5 K1_5 X1_5 T10_5 T11_5 T12_5 K2_5 X2_5 T20_5 T21_5 T22_5 VG_5 OW_5
    clear hb6 hb7 hb8 hI6 Kd Hd x0 x1 x2 x3 x4 y0 y1 y2 y3 y4
    have x0 := blk_cell (blk_below A1.out BQ_6.out) 0
    have x1 := blk_cell (blk_below A1.out BQ_6.out) 1
    have x2 := blk_cell (blk_below A1.out BQ_6.out) 2
    have y0 := blk_cell X1_6.out 0
    have y1 := blk_cell X1_6.out 1
    have y2 := blk_cell X1_6.out 2
    simp only [List.getElem?_toArray, List.getElem?_cons_zero, List.getElem?_cons_succ] at x0 x1 x2 y0 y1 y2
    go_wp2_with fail
    have Kd : Hid (InAt dw2.drew _ _ _ I) := K1_6.out.below (Below.refl _ _).drew
    have Hd : Hid (InAt dw2.drew b1 b2 b3 I) := HI.out.below (below_then HBq.out BQ_6.out).drew
    go_region_held3 (fun w' => w'.cell? ⟨w.heap.size + 1, 0, none⟩ = some (.slice b1 I.nV d1) ∧ w'.cell? ⟨w.heap.size + 1, 1, none⟩ = some (.slice b2 I.nQ d2) ∧ w'.cell? ⟨w.heap.size + 1, 2, none⟩ = some (.slice b3 I.nR d3) ∧ w'.cell? ⟨cw1.heap.size, 0, none⟩ = some (.slice (some ⟨o1, 0, none⟩) I.nV I.nV) ∧ w'.cell? ⟨cw1.heap.size, 1, none⟩ = some (.slice (some ⟨o2, 0, none⟩) I.nQ I.nQ) ∧ w'.cell? ⟨cw1.heap.size, 2, none⟩ = some (.slice (some ⟨o3, 0, none⟩) I.nR I.nR))
      (first | go_keep | ((repeat' constructor) <;> first | exact cell_keep hb7 (by assumption) | exact cell_keep hb6 (by assumption) | exact cell_keep hb7 (by simp [*]; done) | exact cell_keep hb6 (by simp [*]; done)))
      ((first | (go_at_call 11; refine (Copy.toInst b1 b2 b3 d1 d2 d3 I _ Hd.out m4 m5 m6).mono ?_; rintro e dw3 ⟨e1', e2', e3', rfl, hb6, hI6, -⟩) | (go_at_call 15; refine (Eq.eqInst _ _ _ _ _ _ _ _ _ _ _ _ I _ (Kd.out.below hb6) hI6 m4 m5 m6).mono ?_; rintro e dw4 ⟨rfl, hb7⟩)))
    have hb8 := below_then (below_then ((Below.refl dw2.heap.size dw2).drew) hb6) hb7
    have BQ_7 := Hid.mk (below_then BQ_6.out hb8)
    have K0_7 := Hid.mk (K0_6.out.below hb8)
    have X0_7 := Hid.mk (blk_below X0_6.out hb8)
    have T00_7 := Hid.mk (MarkS.there_bel T00_6.out hb8)
    have T01_7 := Hid.mk (MarkS.there_bel T01_6.out hb8)
    have T02_7 := Hid.mk (MarkS.there_bel T02_6.out hb8)
    have K1_7 := Hid.mk (K1_6.out.below hb8)
    have X1_7 := Hid.mk (blk_below X1_6.out hb8)
    have T10_7 := Hid.mk (MarkS.there_bel T10_6.out hb8)
    have T11_7 := Hid.mk (MarkS.there_bel T11_6.out hb8)
    have T12_7 := Hid.mk (MarkS.there_bel T12_6.out hb8)
    have K2_7 := Hid.mk (K2_6.out.below hb8)
    have X2_7 := Hid.mk (blk_below X2_6.out hb8)
    have T20_7 := Hid.mk (MarkS.there_bel T20_6.out hb8)
    have T21_7 := Hid.mk (MarkS.there_bel T21_6.out hb8)
    have T22_7 := Hid.mk (MarkS.there_bel T22_6.out hb8)
    have VG_7 := Hid.mk (blk_below VG_6.out hb8)
    have OW_7 := Hid.mk (OW_6.out.below hb8)
    clear BQ_6 K0_6 X0_6 T00_6 T01_6 T02_6 K1_6 X1_6 T10_6 T11_6 T12_6 K2_6 X2_6 T20_6 T21_6 T22_6 VG_6 OW_6
    clear hb6 hb7 hb8 hI6 Kd Hd x0 x1 x2 y0 y1 y2
    have x0 := blk_cell (blk_below A2.out BQ_7.out) 0
    have x1 := blk_cell (blk_below A2.out BQ_7.out) 1
    have x2 := blk_cell (blk_below A2.out BQ_7.out) 2
    have x3 := blk_cell (blk_below A2.out BQ_7.out) 3
    have x4 := blk_cell (blk_below A2.out BQ_7.out) 4
    have x5 := blk_cell (blk_below A2.out BQ_7.out) 5
    have x6 := blk_cell (blk_below A2.out BQ_7.out) 6
    have x7 := blk_cell (blk_below A2.out BQ_7.out) 7
    have x8 := blk_cell (blk_below A2.out BQ_7.out) 8
    have y0 := blk_cell X2_7.out 0
    have y1 := blk_cell X2_7.out 1
    have y2 := blk_cell X2_7.out 2
    have y3 := blk_cell X2_7.out 3
    have y4 := blk_cell X2_7.out 4
    have y5 := blk_cell X2_7.out 5
    have y6 := blk_cell X2_7.out 6
    have y7 := blk_cell X2_7.out 7
    have y8 := blk_cell X2_7.out 8
    simp only [List.getElem?_toArray, List.getElem?_cons_zero, List.getElem?_cons_succ] at x0 x1 x2 x3 x4 x5 x6 x7 x8 y0 y1 y2 y3 y4 y5 y6 y7 y8
    go_wp2_with fail
    have Kd : Hid (StAt dw4.drew _ _ _ S) := K2_7.out.below (Below.refl _ _).drew
    have Hd : Hid (StAt dw4.drew s1 s2 s3 S) := HS.out.below (below_then HBq.out BQ_7.out).drew
    go_region_held3 (fun w' => w'.cell? ⟨w.heap.size + 1 + 1, 0, none⟩ = some (.int .i64 S.p) ∧ w'.cell? ⟨w.heap.size + 1 + 1, 1, none⟩ = some (.int .i64 S.r) ∧ w'.cell? ⟨w.heap.size + 1 + 1, 2, none⟩ = some (.int .i64 S.d) ∧ w'.cell? ⟨w.heap.size + 1 + 1, 3, none⟩ = some (.int .i64 S.t) ∧ w'.cell? ⟨w.heap.size + 1 + 1, 4, none⟩ = some (.int .i64 S.s) ∧ w'.cell? ⟨w.heap.size + 1 + 1, 5, none⟩ = some (.int .i64 S.l) ∧ w'.cell? ⟨w.heap.size + 1 + 1, 6, none⟩ = some (.slice s1 S.n1 t1) ∧ w'.cell? ⟨w.heap.size + 1 + 1, 7, none⟩ = some (.slice s2 S.n2 t2) ∧ w'.cell? ⟨w.heap.size + 1 + 1, 8, none⟩ = some (.slice s3 S.n3 t3) ∧ w'.cell? ⟨cw2.heap.size, 0, none⟩ = some (.int .i64 S.p) ∧ w'.cell? ⟨cw2.heap.size, 1, none⟩ = some (.int .i64 S.r) ∧ w'.cell? ⟨cw2.heap.size, 2, none⟩ = some (.int .i64 S.d) ∧ w'.cell? ⟨cw2.heap.size, 3, none⟩ = some (.int .i64 S.t) ∧ w'.cell? ⟨cw2.heap.size, 4, none⟩ = some (.int .i64 S.s) ∧ w'.cell? ⟨cw2.heap.size, 5, none⟩ = some (.int .i64 S.l) ∧ w'.cell? ⟨cw2.heap.size, 6, none⟩ = some (.slice (some ⟨u1, 0, none⟩) S.n1 S.n1) ∧ w'.cell? ⟨cw2.heap.size, 7, none⟩ = some (.slice (some ⟨u2, 0, none⟩) S.n2 S.n2) ∧ w'.cell? ⟨cw2.heap.size, 8, none⟩ = some (.slice (some ⟨u3, 0, none⟩) S.n3 S.n3))
      (first | go_keep | ((repeat' constructor) <;> first | exact cell_keep hb7 (by assumption) | exact cell_keep hb6 (by assumption) | exact cell_keep hb7 (by simp [*]; done) | exact cell_keep hb6 (by simp [*]; done)))
      ((first | (go_at_call 22; refine (Copy.toState s1 s2 s3 t1 t2 t3 S _ Hd.out m7 m8 m9).mono ?_; rintro e dw5 ⟨e1', e2', e3', rfl, hb6, hI6, -⟩) | (go_at_call 13; refine (Eq.eqState _ _ _ _ _ _ _ _ _ _ _ _ S _ (Kd.out.below hb6) hI6 m7 m8 m9).mono ?_; rintro e dw6 ⟨rfl, hb7⟩)))
    have hb8 := below_then (below_then ((Below.refl dw4.heap.size dw4).drew) hb6) hb7
    have BQ_8 := Hid.mk (below_then BQ_7.out hb8)
    have K0_8 := Hid.mk (K0_7.out.below hb8)
    have X0_8 := Hid.mk (blk_below X0_7.out hb8)
    have T00_8 := Hid.mk (MarkS.there_bel T00_7.out hb8)
    have T01_8 := Hid.mk (MarkS.there_bel T01_7.out hb8)
    have T02_8 := Hid.mk (MarkS.there_bel T02_7.out hb8)
    have K1_8 := Hid.mk (K1_7.out.below hb8)
    have X1_8 := Hid.mk (blk_below X1_7.out hb8)
    have T10_8 := Hid.mk (MarkS.there_bel T10_7.out hb8)
    have T11_8 := Hid.mk (MarkS.there_bel T11_7.out hb8)
    have T12_8 := Hid.mk (MarkS.there_bel T12_7.out hb8)
    have K2_8 := Hid.mk (K2_7.out.below hb8)
    have X2_8 := Hid.mk (blk_below X2_7.out hb8)
    have T20_8 := Hid.mk (MarkS.there_bel T20_7.out hb8)
    have T21_8 := Hid.mk (MarkS.there_bel T21_7.out hb8)
    have T22_8 := Hid.mk (MarkS.there_bel T22_7.out hb8)
    have VG_8 := Hid.mk (blk_below VG_7.out hb8)
    have OW_8 := Hid.mk (OW_7.out.below hb8)
    clear BQ_7 K0_7 X0_7 T00_7 T01_7 T02_7 K1_7 X1_7 T10_7 T11_7 T12_7 K2_7 X2_7 T20_7 T21_7 T22_7 VG_7 OW_7
    clear hb6 hb7 hb8 hI6 Kd Hd x0 x1 x2 x3 x4 x5 x6 x7 x8 y0 y1 y2 y3 y4 y5 y6 y7 y8
    have x0 := blk_cell X0_8.out 0
    have x1 := blk_cell X0_8.out 1
    have x2 := blk_cell X0_8.out 2
    have x3 := blk_cell X0_8.out 3
    have x4 := blk_cell X0_8.out 4
    simp only [List.getElem?_toArray, List.getElem?_cons_zero, List.getElem?_cons_succ] at x0 x1 x2 x3 x4
    go_wp2_with fail
    clear x0 x1 x2 x3 x4
    refine (MarkS.markCode q1 q2 q3 C.n1 C.n2 C.n3 _ _ _ C.R C.S 1 _ T00_8.out T01_8.out T02_8.out od0.out.2.1 od0.out.2.2.1 (Nat.lt_trans od0.out.2.2.2 (blk_lt X0_8.out)) m1 m2 m3 (by omega) (by omega)).mono ?_
    rintro e f0 ⟨rm0, rfl, rl0, rh0, hbm, hkm⟩
    have BQ_9 := Hid.mk (BQ_8.out.trans (hbm.mono (by have zz0 := od0.out; have zz1 := od1.out; have zz2 := od2.out; omega)))
    have X1_9 := Hid.mk (Mac.mk_blk hbm hkm X1_8.out (by have zz0 := od0.out; have zz1 := od1.out; have zz2 := od2.out; omega))
    have T10_9 := Hid.mk (Mac.mk_there hkm T10_8.out (by have zy := blk_lt X1_8.out; have zz0 := od0.out; have zz1 := od1.out; have zz2 := od2.out; omega) (by have zz0 := od0.out; have zz1 := od1.out; have zz2 := od2.out; omega))
    have T11_9 := Hid.mk (Mac.mk_there hkm T11_8.out (by have zy := blk_lt X1_8.out; have zz0 := od0.out; have zz1 := od1.out; have zz2 := od2.out; omega) (by have zz0 := od0.out; have zz1 := od1.out; have zz2 := od2.out; omega))
    have T12_9 := Hid.mk (Mac.mk_there hkm T12_8.out (by have zy := blk_lt X1_8.out; have zz0 := od0.out; have zz1 := od1.out; have zz2 := od2.out; omega) (by have zz0 := od0.out; have zz1 := od1.out; have zz2 := od2.out; omega))
    have X2_9 := Hid.mk (Mac.mk_blk hbm hkm X2_8.out (by have zz0 := od0.out; have zz1 := od1.out; have zz2 := od2.out; omega))
    have T20_9 := Hid.mk (Mac.mk_there hkm T20_8.out (by have zy := blk_lt X2_8.out; have zz0 := od0.out; have zz1 := od1.out; have zz2 := od2.out; omega) (by have zz0 := od0.out; have zz1 := od1.out; have zz2 := od2.out; omega))
    have T21_9 := Hid.mk (Mac.mk_there hkm T21_8.out (by have zy := blk_lt X2_8.out; have zz0 := od0.out; have zz1 := od1.out; have zz2 := od2.out; omega) (by have zz0 := od0.out; have zz1 := od1.out; have zz2 := od2.out; omega))
    have T22_9 := Hid.mk (Mac.mk_there hkm T22_8.out (by have zy := blk_lt X2_8.out; have zz0 := od0.out; have zz1 := od1.out; have zz2 := od2.out; omega) (by have zz0 := od0.out; have zz1 := od1.out; have zz2 := od2.out; omega))
    have VG_9 := Hid.mk (Mac.mk_blk hbm hkm VG_8.out (by have zz0 := od0.out; have zz1 := od1.out; have zz2 := od2.out; have zg := hgc.out; omega))
    have OW_9 := Hid.mk (OW_8.out.keep fun g hg hs => hkm g (by have zz0 := od0.out; have zz1 := od1.out; have zz2 := od2.out; rw [World.size_alloc] at hg; omega) hs)
    clear hbm hkm BQ_8 K0_8 X0_8 T00_8 T01_8 T02_8 K1_8 X1_8 T10_8 T11_8 T12_8 K2_8 X2_8 T20_8 T21_8 T22_8 VG_8 OW_8
    have x0 := blk_cell X1_9.out 0
    have x1 := blk_cell X1_9.out 1
    have x2 := blk_cell X1_9.out 2
    simp only [List.getElem?_toArray, List.getElem?_cons_zero, List.getElem?_cons_succ] at x0 x1 x2
    go_wp2_with fail
    clear x0 x1 x2
    refine (MarkS.markInst o1 o2 o3 I.nV I.nQ I.nR _ _ _ rm0 _ T10_9.out T11_9.out T12_9.out od1.out.2.1 od1.out.2.2.1 (Nat.lt_trans od1.out.2.2.2 (blk_lt X1_9.out)) m4 m5 m6 (by omega) (by omega)).mono ?_
    rintro e f1 ⟨rm1, rfl, rl1, rh1, hbm, hkm⟩
    have BQ_10 := Hid.mk (BQ_9.out.trans (hbm.mono (by have zz0 := od0.out; have zz1 := od1.out; have zz2 := od2.out; omega)))
    have X2_10 := Hid.mk (Mac.mk_blk hbm hkm X2_9.out (by have zz0 := od0.out; have zz1 := od1.out; have zz2 := od2.out; omega))
    have T20_10 := Hid.mk (Mac.mk_there hkm T20_9.out (by have zy := blk_lt X2_9.out; have zz0 := od0.out; have zz1 := od1.out; have zz2 := od2.out; omega) (by have zz0 := od0.out; have zz1 := od1.out; have zz2 := od2.out; omega))
    have T21_10 := Hid.mk (Mac.mk_there hkm T21_9.out (by have zy := blk_lt X2_9.out; have zz0 := od0.out; have zz1 := od1.out; have zz2 := od2.out; omega) (by have zz0 := od0.out; have zz1 := od1.out; have zz2 := od2.out; omega))
    have T22_10 := Hid.mk (Mac.mk_there hkm T22_9.out (by have zy := blk_lt X2_9.out; have zz0 := od0.out; have zz1 := od1.out; have zz2 := od2.out; omega) (by have zz0 := od0.out; have zz1 := od1.out; have zz2 := od2.out; omega))
    have VG_10 := Hid.mk (Mac.mk_blk hbm hkm VG_9.out (by have zz0 := od0.out; have zz1 := od1.out; have zz2 := od2.out; have zg := hgc.out; omega))
    have OW_10 := Hid.mk (OW_9.out.keep fun g hg hs => hkm g (by have zz0 := od0.out; have zz1 := od1.out; have zz2 := od2.out; rw [World.size_alloc] at hg; omega) hs)
    clear hbm hkm BQ_9 X1_9 T10_9 T11_9 T12_9 X2_9 T20_9 T21_9 T22_9 VG_9 OW_9
    have x0 := blk_cell X2_10.out 0
    have x1 := blk_cell X2_10.out 1
    have x2 := blk_cell X2_10.out 2
    have x3 := blk_cell X2_10.out 3
    have x4 := blk_cell X2_10.out 4
    have x5 := blk_cell X2_10.out 5
    have x6 := blk_cell X2_10.out 6
    have x7 := blk_cell X2_10.out 7
    have x8 := blk_cell X2_10.out 8
    simp only [List.getElem?_toArray, List.getElem?_cons_zero, List.getElem?_cons_succ] at x0 x1 x2 x3 x4 x5 x6 x7 x8
    go_wp2_with fail
    clear x0 x1 x2 x3 x4 x5 x6 x7 x8
    refine (MarkS.markState u1 u2 u3 S.n1 S.n2 S.n3 _ _ _ S.p S.r S.d S.t S.s S.l rm1 _ T20_10.out T21_10.out T22_10.out od2.out.2.1 od2.out.2.2.1 (Nat.lt_trans od2.out.2.2.2 (blk_lt X2_10.out)) m7 m8 m9 (by omega) (by omega)).mono ?_
    rintro e f2 ⟨rm2, rfl, rl2, rh2, hbm, hkm⟩
    have BQ_11 := Hid.mk (BQ_10.out.trans (hbm.mono (by have zz0 := od0.out; have zz1 := od1.out; have zz2 := od2.out; omega)))
    have VG_11 := Hid.mk (Mac.mk_blk hbm hkm VG_10.out (by have zz0 := od0.out; have zz1 := od1.out; have zz2 := od2.out; have zg := hgc.out; omega))
    have OW_11 := Hid.mk (OW_10.out.keep fun g hg hs => hkm g (by have zz0 := od0.out; have zz1 := od1.out; have zz2 := od2.out; rw [World.size_alloc] at hg; omega) hs)
    clear hbm hkm BQ_10 X2_10 T20_10 T21_10 T22_10 VG_10 OW_10
    have hneg : decide (rm2 < 0) = false := by simp; omega
    have x0 := blk_cell VG_11.out 0
    have x1 := blk_cell VG_11.out 1
    have x2 := blk_cell VG_11.out 2
    have x3 := blk_cell VG_11.out 3
    have x4 := blk_cell VG_11.out 4
    have x5 := blk_cell VG_11.out 5
    have x6 := blk_cell VG_11.out 6
    have x7 := blk_cell VG_11.out 7
    have x8 := blk_cell VG_11.out 8
    have y0 := blk_cell (blk_below V0.out BQ_11.out) 0
    have y1 := blk_cell (blk_below V0.out BQ_11.out) 1
    have y2 := blk_cell (blk_below V0.out BQ_11.out) 2
    have y3 := blk_cell (blk_below V0.out BQ_11.out) 3
    have y4 := blk_cell (blk_below V0.out BQ_11.out) 4
    have y5 := blk_cell (blk_below V0.out BQ_11.out) 5
    have y6 := blk_cell (blk_below V0.out BQ_11.out) 6
    have y7 := blk_cell (blk_below V0.out BQ_11.out) 7
    have y8 := blk_cell (blk_below V0.out BQ_11.out) 8
    simp only [List.getElem?_toArray, List.getElem?_cons_zero, List.getElem?_cons_succ] at x0 x1 x2 x3 x4 x5 x6 x7 x8 y0 y1 y2 y3 y4 y5 y6 y7 y8
    go_wp2_with fail
    clear x0 x1 x2 x3 x4 x5 x6 x7 x8 y0 y1 y2 y3 y4 y5 y6 y7 y8
    refine (Eq.eqState _ _ _ _ _ _ _ _ _ _ _ _ W _ OW_11.out.st (SW.out.below BQ_11.out) LN.out.1 LN.out.2.1 LN.out.2.2).mono ?_
    rintro e f8 ⟨rfl, hb⟩
    have BQ_12 := Hid.mk (below_then BQ_11.out hb)
    have VG_12 := Hid.mk (blk_below VG_11.out hb)
    have OW_12 := Hid.mk (OW_11.out.below hb)
    clear BQ_11 VG_11 OW_11
    clear hb hneg
    have x0 := blk_cell VG_12.out 0
    have x1 := blk_cell VG_12.out 1
    have x2 := blk_cell VG_12.out 2
    have x3 := blk_cell VG_12.out 3
    have x4 := blk_cell VG_12.out 4
    have x5 := blk_cell VG_12.out 5
    have x6 := blk_cell VG_12.out 6
    have x7 := blk_cell VG_12.out 7
    have x8 := blk_cell VG_12.out 8
    simp only [List.getElem?_toArray, List.getElem?_cons_zero, List.getElem?_cons_succ] at x0 x1 x2 x3 x4 x5 x6 x7 x8
    go_wp2_with fail
    clear x0 x1 x2 x3 x4 x5 x6 x7 x8
    refine (MarkS.markStateP (cw2.heap.size + 1) k1 k2 k3 e1 e2 e3 W.n1 W.n2 W.n3 g1 g2 g3 W.p W.r W.d W.t W.s W.l _ OW_12.out.h1 OW_12.out.h2 OW_12.out.h3 (Mac.rw_there OW_12.out.r1) (Mac.rw_there OW_12.out.r2) (Mac.rw_there OW_12.out.r3) OW_12.out.p1 OW_12.out.p2 OW_12.out.p3 (by have z := OW_12.out.l1; rw [World.size_alloc] at z; exact z) (by have z := OW_12.out.l2; rw [World.size_alloc] at z; exact z) (by have z := OW_12.out.l3; rw [World.size_alloc] at z; exact z) (by have z := blk_lt VG_12.out; have zg := hgc.out; omega) LN.out.1 LN.out.2.1 LN.out.2.2).mono ?_
    rintro e f9 ⟨rfl, mk1, mk2, mk3, hbm, hkm⟩
    have BQn := Hid.mk (BQ_12.out.trans (hbm.mono (by have zz0 := od0.out; have zz1 := od1.out; have zz2 := od2.out; omega)))
    have VGn := Hid.mk ((hkm ce.heap.size (blk_lt VG_12.out) (fun h => Nat.ne_of_gt (hgl.out.1 h)) (fun h => Nat.ne_of_gt (hgl.out.2.1 h)) (fun h => Nat.ne_of_gt (hgl.out.2.2 h))).trans VG_12.out)
    have AH := Hid.mk (And.intro OW_12.out.h1 (And.intro OW_12.out.h2 OW_12.out.h3))
    have MK := Hid.mk (And.intro mk1 (And.intro mk2 mk3))
    clear hbm hkm mk1 mk2 mk3 BQ_12 VG_12 OW_12
    have t3 : decide ((1 : Int) + (W.n1 : Int) + (W.n2 : Int) + (W.n3 : Int) < 0) = false := by simp; omega
    have x0 := blk_cell VGn.out 0
    have x1 := blk_cell VGn.out 1
    have x2 := blk_cell VGn.out 2
    have x3 := blk_cell VGn.out 3
    have x4 := blk_cell VGn.out 4
    have x5 := blk_cell VGn.out 5
    have x6 := blk_cell VGn.out 6
    have x7 := blk_cell VGn.out 7
    have x8 := blk_cell VGn.out 8
    simp only [List.getElem?_toArray, List.getElem?_cons_zero, List.getElem?_cons_succ] at x0 x1 x2 x3 x4 x5 x6 x7 x8
    go_wp2_with fail
    clear x0 x1 x2 x3 x4 x5 x6 x7 x8
    refine (MarkS.heldStateP k1 k2 k3 e1 e2 e3 W.n1 W.n2 W.n3 g1 g2 g3 W.p W.r W.d W.t W.s W.l _ AH.out.1 AH.out.2.1 AH.out.2.2 MK.out.1 MK.out.2.1 MK.out.2.2 LN.out.1 LN.out.2.1 LN.out.2.2).mono ?_
    rintro e fa ⟨rfl, hb⟩
    have BQm := Hid.mk (below_then BQn.out hb)
    clear hb BQn VGn MK AH
    go_upto_region 38 with fail
    clear t3
    have HB := Hid.mk (below_then HBq.out BQm.out)
    have B0 := Hid.mk (blk_below A0.out BQm.out)
    have B1 := Hid.mk (blk_below A1.out BQm.out)
    have B2 := Hid.mk (blk_below A2.out BQm.out)
    clear A0 A1 A2
    have A0 := B0
    have A1 := B1
    have A2 := B2
    clear B0 B1 B2
    have V0m := Hid.mk (blk_below V0.out BQm.out)
    have SWm := Hid.mk (SW.out.below BQm.out)
    have hVq := Hid.mk (blk_lt V0.out)
    clear V0 SW
    have HSS := Hid.mk (show fa.cell? ⟨w.heap.size, 0, none⟩ = some (.int .i64 C.R) ∧ fa.cell? ⟨w.heap.size, 1, none⟩ = some (.int .i64 C.S) ∧ fa.cell? ⟨w.heap.size, 2, none⟩ = some (.slice a1 C.n1 c1) ∧ fa.cell? ⟨w.heap.size, 3, none⟩ = some (.slice a2 C.n2 c2) ∧ fa.cell? ⟨w.heap.size, 4, none⟩ = some (.slice a3 C.n3 c3) ∧ fa.cell? ⟨w.heap.size + 1, 0, none⟩ = some (.slice b1 I.nV d1) ∧ fa.cell? ⟨w.heap.size + 1, 1, none⟩ = some (.slice b2 I.nQ d2) ∧ fa.cell? ⟨w.heap.size + 1, 2, none⟩ = some (.slice b3 I.nR d3) ∧ fa.cell? ⟨w.heap.size + 1 + 1, 0, none⟩ = some (.int .i64 S.p) ∧ fa.cell? ⟨w.heap.size + 1 + 1, 1, none⟩ = some (.int .i64 S.r) ∧ fa.cell? ⟨w.heap.size + 1 + 1, 2, none⟩ = some (.int .i64 S.d) ∧ fa.cell? ⟨w.heap.size + 1 + 1, 3, none⟩ = some (.int .i64 S.t) ∧ fa.cell? ⟨w.heap.size + 1 + 1, 4, none⟩ = some (.int .i64 S.s) ∧ fa.cell? ⟨w.heap.size + 1 + 1, 5, none⟩ = some (.int .i64 S.l) ∧ fa.cell? ⟨w.heap.size + 1 + 1, 6, none⟩ = some (.slice s1 S.n1 t1) ∧ fa.cell? ⟨w.heap.size + 1 + 1, 7, none⟩ = some (.slice s2 S.n2 t2) ∧ fa.cell? ⟨w.heap.size + 1 + 1, 8, none⟩ = some (.slice s3 S.n3 t3) from ⟨(blk_cell A0.out 0).trans rfl, (blk_cell A0.out 1).trans rfl, (blk_cell A0.out 2).trans rfl, (blk_cell A0.out 3).trans rfl, (blk_cell A0.out 4).trans rfl, (blk_cell A1.out 0).trans rfl, (blk_cell A1.out 1).trans rfl, (blk_cell A1.out 2).trans rfl, (blk_cell A2.out 0).trans rfl, (blk_cell A2.out 1).trans rfl, (blk_cell A2.out 2).trans rfl, (blk_cell A2.out 3).trans rfl, (blk_cell A2.out 4).trans rfl, (blk_cell A2.out 5).trans rfl, (blk_cell A2.out 6).trans rfl, (blk_cell A2.out 7).trans rfl, (blk_cell A2.out 8).trans rfl⟩)
    have hwb := Hid.mk (blk_lt A2.out)
    go_cut [20] (fun m wx => ∃ (V : Nat) (y1 y2 y3 : Option Addr) (z1 z2 z3 : Nat), m = .pointer (some ⟨V, 0, none⟩) ∧ Hid (Below fa.heap.size fa wx) ∧ Hid (wx.heap[V]? = some (.cells #[.int .i64 W.p, .int .i64 W.r, .int .i64 W.d, .int .i64 W.t, .int .i64 W.s, .int .i64 W.l, .slice y1 W.n1 z1, .slice y2 W.n2 z2, .slice y3 W.n3 z3] 34)) ∧ Hid (StAt wx y1 y2 y3 W))
    case first =>
      have HR := Hid.mk ((Below.refl fa.heap.size fa).drew)
      refine wp_region_held_drew (S := (fun w' => w'.cell? ⟨w.heap.size, 0, none⟩ = some (.int .i64 C.R) ∧ w'.cell? ⟨w.heap.size, 1, none⟩ = some (.int .i64 C.S) ∧ w'.cell? ⟨w.heap.size, 2, none⟩ = some (.slice a1 C.n1 c1) ∧ w'.cell? ⟨w.heap.size, 3, none⟩ = some (.slice a2 C.n2 c2) ∧ w'.cell? ⟨w.heap.size, 4, none⟩ = some (.slice a3 C.n3 c3) ∧ w'.cell? ⟨w.heap.size + 1, 0, none⟩ = some (.slice b1 I.nV d1) ∧ w'.cell? ⟨w.heap.size + 1, 1, none⟩ = some (.slice b2 I.nQ d2) ∧ w'.cell? ⟨w.heap.size + 1, 2, none⟩ = some (.slice b3 I.nR d3) ∧ w'.cell? ⟨w.heap.size + 1 + 1, 0, none⟩ = some (.int .i64 S.p) ∧ w'.cell? ⟨w.heap.size + 1 + 1, 1, none⟩ = some (.int .i64 S.r) ∧ w'.cell? ⟨w.heap.size + 1 + 1, 2, none⟩ = some (.int .i64 S.d) ∧ w'.cell? ⟨w.heap.size + 1 + 1, 3, none⟩ = some (.int .i64 S.t) ∧ w'.cell? ⟨w.heap.size + 1 + 1, 4, none⟩ = some (.int .i64 S.s) ∧ w'.cell? ⟨w.heap.size + 1 + 1, 5, none⟩ = some (.int .i64 S.l) ∧ w'.cell? ⟨w.heap.size + 1 + 1, 6, none⟩ = some (.slice s1 S.n1 t1) ∧ w'.cell? ⟨w.heap.size + 1 + 1, 7, none⟩ = some (.slice s2 S.n2 t2) ∧ w'.cell? ⟨w.heap.size + 1 + 1, 8, none⟩ = some (.slice s3 S.n3 t3))) (by kernel_rfl) ?_ (fun hHeld => ?_)
      · exact HSS.out
      refine wpAnyH_take (i := 0) (v := ?_) rfl (by kernel_rfl) (by kernel_rfl) (by kernel_rfl) (fun _ _ _ h => h) (Or.inl ⟨by rfl, ?_⟩) (by assumption) ?_
      rotate_left
      · intro w hSw; (try dsimp only at hSw); go_simp; (try with_reducible rfl)
      rotate_left
      simp only [Act.put, List.setIfInBounds_toArray, List.set_cons_zero, List.set_cons_succ, List.getElem_toArray, List.getElem_cons_zero, List.getElem_cons_succ]
      refine wpAnyH_take (i := 2) (v := ?_) rfl (by kernel_rfl) (by kernel_rfl) (by kernel_rfl) (fun _ _ _ h => h) (Or.inl ⟨by rfl, ?_⟩) (by assumption) ?_
      rotate_left
      · intro w hSw; (try dsimp only at hSw); go_simp; (try with_reducible rfl)
      rotate_left
      simp only [Act.put, List.setIfInBounds_toArray, List.set_cons_zero, List.set_cons_succ, List.getElem_toArray, List.getElem_cons_zero, List.getElem_cons_succ]
      refine wpAnyH_take (i := 4) (v := ?_) rfl (by kernel_rfl) (by kernel_rfl) (by kernel_rfl) (fun _ _ _ h => h) (Or.inl ⟨by rfl, ?_⟩) (by assumption) ?_
      rotate_left
      · intro w hSw; (try dsimp only at hSw); go_simp; (try with_reducible rfl)
      rotate_left
      simp only [Act.put, List.setIfInBounds_toArray, List.set_cons_zero, List.set_cons_succ, List.getElem_toArray, List.getElem_cons_zero, List.getElem_cons_succ]
      refine wpAnyH_take (i := 5) (v := ?_) rfl (by kernel_rfl) (by kernel_rfl) (by kernel_rfl) (fun _ _ _ h => h) (Or.inl ⟨by rfl, ?_⟩) (by assumption) ?_
      rotate_left
      · intro w hSw; (try dsimp only at hSw); go_simp; (try with_reducible rfl)
      rotate_left
      simp only [Act.put, List.setIfInBounds_toArray, List.set_cons_zero, List.set_cons_succ, List.getElem_toArray, List.getElem_cons_zero, List.getElem_cons_succ]
      refine wpAnyH_take (i := 7) (v := ?_) rfl (by kernel_rfl) (by kernel_rfl) (by kernel_rfl) (fun _ _ _ h => h) (Or.inl ⟨by rfl, ?_⟩) (by assumption) ?_
      rotate_left
      · intro w hSw; (try dsimp only at hSw); go_simp; (try with_reducible rfl)
      rotate_left
      simp only [Act.put, List.setIfInBounds_toArray, List.set_cons_zero, List.set_cons_succ, List.getElem_toArray, List.getElem_cons_zero, List.getElem_cons_succ]
      refine wpAnyH_ready (rs := [1, 9]) (by kernel_rfl) (by simp) ?_
      refine AllReadyH.cons rfl (fun K hK => ?_) ?_
      · go_simp
        refine (Copy.toCode a1 a2 a3 c1 c2 c3 C _ (HC.out.below (below_then HB.out HR.out)) m1 m2 m3).mono ?_
        rintro e wk0 ⟨p1, p2, p3, rfl, hb, hcp, -⟩
        have HR := Hid.mk (below_then HR.out hb)
        (try have KC := Hid.mk (KC.out.below hb))
        (try have KI := Hid.mk (KI.out.below hb))
        (try have KS := Hid.mk (KS.out.below hb))
        (try have SW := Hid.mk (SW.out.below hb))
        (try have AV := Hid.mk (blk_below AV.out hb))
        have KC := Hid.mk hcp
        refine hK.out _ _ ?_ (fun hHeld => ?_)
        · exact ⟨cell_keep hb hHeld.1, cell_keep hb hHeld.2.1, cell_keep hb hHeld.2.2.1, cell_keep hb hHeld.2.2.2.1, cell_keep hb hHeld.2.2.2.2.1, cell_keep hb hHeld.2.2.2.2.2.1, cell_keep hb hHeld.2.2.2.2.2.2.1, cell_keep hb hHeld.2.2.2.2.2.2.2.1, cell_keep hb hHeld.2.2.2.2.2.2.2.2.1, cell_keep hb hHeld.2.2.2.2.2.2.2.2.2.1, cell_keep hb hHeld.2.2.2.2.2.2.2.2.2.2.1, cell_keep hb hHeld.2.2.2.2.2.2.2.2.2.2.2.1, cell_keep hb hHeld.2.2.2.2.2.2.2.2.2.2.2.2.1, cell_keep hb hHeld.2.2.2.2.2.2.2.2.2.2.2.2.2.1, cell_keep hb hHeld.2.2.2.2.2.2.2.2.2.2.2.2.2.2.1, cell_keep hb hHeld.2.2.2.2.2.2.2.2.2.2.2.2.2.2.2.1, cell_keep hb hHeld.2.2.2.2.2.2.2.2.2.2.2.2.2.2.2.2⟩
        clear hK K
        (try simp only [Act.put, List.setIfInBounds_toArray, List.set_cons_zero, List.set_cons_succ, List.getElem_toArray, List.getElem_cons_zero, List.getElem_cons_succ])
        refine wpAnyH_ready (rs := [3, 9]) (by kernel_rfl) (by simp) ?_
        refine AllReadyH.cons rfl (fun K hK => ?_) ?_
        · go_simp
          refine (Copy.toInst b1 b2 b3 d1 d2 d3 I _ (HI.out.below (below_then HB.out HR.out)) m4 m5 m6).mono ?_
          rintro e wk1 ⟨p1, p2, p3, rfl, hb, hcp, -⟩
          have HR := Hid.mk (below_then HR.out hb)
          (try have KC := Hid.mk (KC.out.below hb))
          (try have KI := Hid.mk (KI.out.below hb))
          (try have KS := Hid.mk (KS.out.below hb))
          (try have SW := Hid.mk (SW.out.below hb))
          (try have AV := Hid.mk (blk_below AV.out hb))
          have KI := Hid.mk hcp
          refine hK.out _ _ ?_ (fun hHeld => ?_)
          · exact ⟨cell_keep hb hHeld.1, cell_keep hb hHeld.2.1, cell_keep hb hHeld.2.2.1, cell_keep hb hHeld.2.2.2.1, cell_keep hb hHeld.2.2.2.2.1, cell_keep hb hHeld.2.2.2.2.2.1, cell_keep hb hHeld.2.2.2.2.2.2.1, cell_keep hb hHeld.2.2.2.2.2.2.2.1, cell_keep hb hHeld.2.2.2.2.2.2.2.2.1, cell_keep hb hHeld.2.2.2.2.2.2.2.2.2.1, cell_keep hb hHeld.2.2.2.2.2.2.2.2.2.2.1, cell_keep hb hHeld.2.2.2.2.2.2.2.2.2.2.2.1, cell_keep hb hHeld.2.2.2.2.2.2.2.2.2.2.2.2.1, cell_keep hb hHeld.2.2.2.2.2.2.2.2.2.2.2.2.2.1, cell_keep hb hHeld.2.2.2.2.2.2.2.2.2.2.2.2.2.2.1, cell_keep hb hHeld.2.2.2.2.2.2.2.2.2.2.2.2.2.2.2.1, cell_keep hb hHeld.2.2.2.2.2.2.2.2.2.2.2.2.2.2.2.2⟩
          clear hK K
          (try simp only [Act.put, List.setIfInBounds_toArray, List.set_cons_zero, List.set_cons_succ, List.getElem_toArray, List.getElem_cons_zero, List.getElem_cons_succ])
          refine wpAnyH_ready (rs := [6, 9]) (by kernel_rfl) (by simp) ?_
          refine AllReadyH.cons rfl (fun K hK => ?_) ?_
          · go_simp
            refine (Copy.toState s1 s2 s3 t1 t2 t3 S _ (HS.out.below (below_then HB.out HR.out)) m7 m8 m9).mono ?_
            rintro e wk2 ⟨p1, p2, p3, rfl, hb, hcp, -⟩
            have HR := Hid.mk (below_then HR.out hb)
            (try have KC := Hid.mk (KC.out.below hb))
            (try have KI := Hid.mk (KI.out.below hb))
            (try have KS := Hid.mk (KS.out.below hb))
            (try have SW := Hid.mk (SW.out.below hb))
            (try have AV := Hid.mk (blk_below AV.out hb))
            have KS := Hid.mk hcp
            refine hK.out _ _ ?_ (fun hHeld => ?_)
            · exact ⟨cell_keep hb hHeld.1, cell_keep hb hHeld.2.1, cell_keep hb hHeld.2.2.1, cell_keep hb hHeld.2.2.2.1, cell_keep hb hHeld.2.2.2.2.1, cell_keep hb hHeld.2.2.2.2.2.1, cell_keep hb hHeld.2.2.2.2.2.2.1, cell_keep hb hHeld.2.2.2.2.2.2.2.1, cell_keep hb hHeld.2.2.2.2.2.2.2.2.1, cell_keep hb hHeld.2.2.2.2.2.2.2.2.2.1, cell_keep hb hHeld.2.2.2.2.2.2.2.2.2.2.1, cell_keep hb hHeld.2.2.2.2.2.2.2.2.2.2.2.1, cell_keep hb hHeld.2.2.2.2.2.2.2.2.2.2.2.2.1, cell_keep hb hHeld.2.2.2.2.2.2.2.2.2.2.2.2.2.1, cell_keep hb hHeld.2.2.2.2.2.2.2.2.2.2.2.2.2.2.1, cell_keep hb hHeld.2.2.2.2.2.2.2.2.2.2.2.2.2.2.2.1, cell_keep hb hHeld.2.2.2.2.2.2.2.2.2.2.2.2.2.2.2.2⟩
            clear hK K
            (try simp only [Act.put, List.setIfInBounds_toArray, List.set_cons_zero, List.set_cons_succ, List.getElem_toArray, List.getElem_cons_zero, List.getElem_cons_succ])
            refine wpAnyH_ready (rs := [8, 9]) (by kernel_rfl) (by simp) ?_
            refine AllReadyH.cons rfl (fun K hK => ?_) ?_
            · go_simp
              refine (implS _ _ _ _ _ _ _ _ _ _ _ _ _ _ _ _ _ _ C I v S n W HW.out _ KC.out KI.out KS.out m1 m2 m3 m4 m5 m6 m7 m8 m9 (HT.out.below (below_then HB.out HR.out))).mono ?_
              rintro e wk9 ⟨y1, y2, y3, z1, z2, z3, _, _, _, rfl, hb, hst⟩
              (try have FR := Hid.mk (Mac.far_new hst.fre (blk_lt AV.out)))
              have HR := Hid.mk (below_then HR.out hb)
              (try have KC := Hid.mk (KC.out.below hb))
              (try have KI := Hid.mk (KI.out.below hb))
              (try have KS := Hid.mk (KS.out.below hb))
              (try have SW := Hid.mk (SW.out.below hb))
              (try have AV := Hid.mk (blk_below AV.out hb))
              have SW := Hid.mk hst.st
              refine hK.out _ _ ?_ (fun hHeld => ?_)
              · exact ⟨cell_keep hb hHeld.1, cell_keep hb hHeld.2.1, cell_keep hb hHeld.2.2.1, cell_keep hb hHeld.2.2.2.1, cell_keep hb hHeld.2.2.2.2.1, cell_keep hb hHeld.2.2.2.2.2.1, cell_keep hb hHeld.2.2.2.2.2.2.1, cell_keep hb hHeld.2.2.2.2.2.2.2.1, cell_keep hb hHeld.2.2.2.2.2.2.2.2.1, cell_keep hb hHeld.2.2.2.2.2.2.2.2.2.1, cell_keep hb hHeld.2.2.2.2.2.2.2.2.2.2.1, cell_keep hb hHeld.2.2.2.2.2.2.2.2.2.2.2.1, cell_keep hb hHeld.2.2.2.2.2.2.2.2.2.2.2.2.1, cell_keep hb hHeld.2.2.2.2.2.2.2.2.2.2.2.2.2.1, cell_keep hb hHeld.2.2.2.2.2.2.2.2.2.2.2.2.2.2.1, cell_keep hb hHeld.2.2.2.2.2.2.2.2.2.2.2.2.2.2.2.1, cell_keep hb hHeld.2.2.2.2.2.2.2.2.2.2.2.2.2.2.2.2⟩
              clear hK K
              (try simp only [Act.put, List.setIfInBounds_toArray, List.set_cons_zero, List.set_cons_succ, List.getElem_toArray, List.getElem_cons_zero, List.getElem_cons_succ])
              refine wpAnyH_ready (rs := [9]) (by kernel_rfl) (by simp) ?_
              refine AllReadyH.cons rfl (fun K hK => ?_) ?_
              · go_simp
                (try have FR := Hid.mk (Mac.far_lt SW.out))
                have AV := Hid.mk (Mac.mblk_of HR.out (.cells #[.int .i64 0, .int .i64 0, .int .i64 0, .int .i64 0, .int .i64 0, .int .i64 0, .slice none 0 0, .slice none 0 0, .slice none 0 0] 34))
                have hV := Hid.mk HR.out.size
                have hV2 := Hid.mk (Nat.lt_of_lt_of_le hwb.out hV.out)
                have HR := Hid.mk (HR.out.alloc HR.out.size (.cells #[.int .i64 0, .int .i64 0, .int .i64 0, .int .i64 0, .int .i64 0, .int .i64 0, .slice none 0 0, .slice none 0 0, .slice none 0 0] 34))
                (try have KC := Hid.mk (KC.out.below ((Below.refl _ _).alloc (Nat.le_refl _) (.cells #[.int .i64 0, .int .i64 0, .int .i64 0, .int .i64 0, .int .i64 0, .int .i64 0, .slice none 0 0, .slice none 0 0, .slice none 0 0] 34))))
                (try have KI := Hid.mk (KI.out.below ((Below.refl _ _).alloc (Nat.le_refl _) (.cells #[.int .i64 0, .int .i64 0, .int .i64 0, .int .i64 0, .int .i64 0, .int .i64 0, .slice none 0 0, .slice none 0 0, .slice none 0 0] 34))))
                (try have KS := Hid.mk (KS.out.below ((Below.refl _ _).alloc (Nat.le_refl _) (.cells #[.int .i64 0, .int .i64 0, .int .i64 0, .int .i64 0, .int .i64 0, .int .i64 0, .slice none 0 0, .slice none 0 0, .slice none 0 0] 34))))
                (try have SW := Hid.mk (SW.out.below ((Below.refl _ _).alloc (Nat.le_refl _) (.cells #[.int .i64 0, .int .i64 0, .int .i64 0, .int .i64 0, .int .i64 0, .int .i64 0, .slice none 0 0, .slice none 0 0, .slice none 0 0] 34))))
                refine hK.out _ _ ?_ (fun hHeld => ?_)
                · exact ⟨cell_alloc' hHeld.1 _, cell_alloc' hHeld.2.1 _, cell_alloc' hHeld.2.2.1 _, cell_alloc' hHeld.2.2.2.1 _, cell_alloc' hHeld.2.2.2.2.1 _, cell_alloc' hHeld.2.2.2.2.2.1 _, cell_alloc' hHeld.2.2.2.2.2.2.1 _, cell_alloc' hHeld.2.2.2.2.2.2.2.1 _, cell_alloc' hHeld.2.2.2.2.2.2.2.2.1 _, cell_alloc' hHeld.2.2.2.2.2.2.2.2.2.1 _, cell_alloc' hHeld.2.2.2.2.2.2.2.2.2.2.1 _, cell_alloc' hHeld.2.2.2.2.2.2.2.2.2.2.2.1 _, cell_alloc' hHeld.2.2.2.2.2.2.2.2.2.2.2.2.1 _, cell_alloc' hHeld.2.2.2.2.2.2.2.2.2.2.2.2.2.1 _, cell_alloc' hHeld.2.2.2.2.2.2.2.2.2.2.2.2.2.2.1 _, cell_alloc' hHeld.2.2.2.2.2.2.2.2.2.2.2.2.2.2.2.1 _, cell_alloc' hHeld.2.2.2.2.2.2.2.2.2.2.2.2.2.2.2.2 _⟩
                clear hK K
                (try simp only [Act.put, List.setIfInBounds_toArray, List.set_cons_zero, List.set_cons_succ, List.getElem_toArray, List.getElem_cons_zero, List.getElem_cons_succ])
                refine wpAnyH_ready (rs := [10]) (by kernel_rfl) (by simp) ?_
                refine AllReadyH.cons rfl (fun K hK => ?_) ?_
                · rw [if_pos (by rfl)]
                  refine wp_store_row _ _ _ rfl _ #[.int .i64 W.p, .int .i64 W.r, .int .i64 W.d, .int .i64 W.t, .int .i64 W.s, .int .i64 W.l, .slice y1 W.n1 z1, .slice y2 W.n2 z2, .slice y3 W.n3 z3] rfl rfl _ _ AV.out Mac.infoSt rfl (by simp [Value.oneCell']) ?_
                  refine hK.out _ _ ?_ (fun hHeld => ?_)
                  · exact ⟨Mac.mcell_srow hHeld.1 (by have h1 := hV2.out; first | omega | (simp only [World.drew] at h1 ⊢; omega)), Mac.mcell_srow hHeld.2.1 (by have h1 := hV2.out; first | omega | (simp only [World.drew] at h1 ⊢; omega)), Mac.mcell_srow hHeld.2.2.1 (by have h1 := hV2.out; first | omega | (simp only [World.drew] at h1 ⊢; omega)), Mac.mcell_srow hHeld.2.2.2.1 (by have h1 := hV2.out; first | omega | (simp only [World.drew] at h1 ⊢; omega)), Mac.mcell_srow hHeld.2.2.2.2.1 (by have h1 := hV2.out; first | omega | (simp only [World.drew] at h1 ⊢; omega)), Mac.mcell_srow hHeld.2.2.2.2.2.1 (by have h1 := hV2.out; first | omega | (simp only [World.drew] at h1 ⊢; omega)), Mac.mcell_srow hHeld.2.2.2.2.2.2.1 (by have h1 := hV2.out; first | omega | (simp only [World.drew] at h1 ⊢; omega)), Mac.mcell_srow hHeld.2.2.2.2.2.2.2.1 (by have h1 := hV2.out; first | omega | (simp only [World.drew] at h1 ⊢; omega)), Mac.mcell_srow hHeld.2.2.2.2.2.2.2.2.1 (by have h1 := hV2.out; first | omega | (simp only [World.drew] at h1 ⊢; omega)), Mac.mcell_srow hHeld.2.2.2.2.2.2.2.2.2.1 (by have h1 := hV2.out; first | omega | (simp only [World.drew] at h1 ⊢; omega)), Mac.mcell_srow hHeld.2.2.2.2.2.2.2.2.2.2.1 (by have h1 := hV2.out; first | omega | (simp only [World.drew] at h1 ⊢; omega)), Mac.mcell_srow hHeld.2.2.2.2.2.2.2.2.2.2.2.1 (by have h1 := hV2.out; first | omega | (simp only [World.drew] at h1 ⊢; omega)), Mac.mcell_srow hHeld.2.2.2.2.2.2.2.2.2.2.2.2.1 (by have h1 := hV2.out; first | omega | (simp only [World.drew] at h1 ⊢; omega)), Mac.mcell_srow hHeld.2.2.2.2.2.2.2.2.2.2.2.2.2.1 (by have h1 := hV2.out; first | omega | (simp only [World.drew] at h1 ⊢; omega)), Mac.mcell_srow hHeld.2.2.2.2.2.2.2.2.2.2.2.2.2.2.1 (by have h1 := hV2.out; first | omega | (simp only [World.drew] at h1 ⊢; omega)), Mac.mcell_srow hHeld.2.2.2.2.2.2.2.2.2.2.2.2.2.2.2.1 (by have h1 := hV2.out; first | omega | (simp only [World.drew] at h1 ⊢; omega)), Mac.mcell_srow hHeld.2.2.2.2.2.2.2.2.2.2.2.2.2.2.2.2 (by have h1 := hV2.out; first | omega | (simp only [World.drew] at h1 ⊢; omega))⟩
                  clear hK K
                  (try simp only [Act.put, List.setIfInBounds_toArray, List.set_cons_zero, List.set_cons_succ, List.getElem_toArray, List.getElem_cons_zero, List.getElem_cons_succ])
                  refine wpAnyH_done (by kernel_rfl) ?_ _
                  go_wp2_with fail
                  go_meet
                  exact ⟨_, y1, y2, y3, z1, z2, z3, rfl, Hid.mk (Mac.row_below HR.out hV.out _), Hid.mk (Mac.row_self AV.out _), Hid.mk (Mac.st_row SW.out FR.out _)⟩
                exact AllReadyH.nil
              exact AllReadyH.nil
            refine AllReadyH.cons rfl (fun K hK => ?_) ?_
            · go_simp
              (try have FR := Hid.mk (Mac.far_lt SW.out))
              have AV := Hid.mk (Mac.mblk_of HR.out (.cells #[.int .i64 0, .int .i64 0, .int .i64 0, .int .i64 0, .int .i64 0, .int .i64 0, .slice none 0 0, .slice none 0 0, .slice none 0 0] 34))
              have hV := Hid.mk HR.out.size
              have hV2 := Hid.mk (Nat.lt_of_lt_of_le hwb.out hV.out)
              have HR := Hid.mk (HR.out.alloc HR.out.size (.cells #[.int .i64 0, .int .i64 0, .int .i64 0, .int .i64 0, .int .i64 0, .int .i64 0, .slice none 0 0, .slice none 0 0, .slice none 0 0] 34))
              (try have KC := Hid.mk (KC.out.below ((Below.refl _ _).alloc (Nat.le_refl _) (.cells #[.int .i64 0, .int .i64 0, .int .i64 0, .int .i64 0, .int .i64 0, .int .i64 0, .slice none 0 0, .slice none 0 0, .slice none 0 0] 34))))
              (try have KI := Hid.mk (KI.out.below ((Below.refl _ _).alloc (Nat.le_refl _) (.cells #[.int .i64 0, .int .i64 0, .int .i64 0, .int .i64 0, .int .i64 0, .int .i64 0, .slice none 0 0, .slice none 0 0, .slice none 0 0] 34))))
              (try have KS := Hid.mk (KS.out.below ((Below.refl _ _).alloc (Nat.le_refl _) (.cells #[.int .i64 0, .int .i64 0, .int .i64 0, .int .i64 0, .int .i64 0, .int .i64 0, .slice none 0 0, .slice none 0 0, .slice none 0 0] 34))))
              (try have SW := Hid.mk (SW.out.below ((Below.refl _ _).alloc (Nat.le_refl _) (.cells #[.int .i64 0, .int .i64 0, .int .i64 0, .int .i64 0, .int .i64 0, .int .i64 0, .slice none 0 0, .slice none 0 0, .slice none 0 0] 34))))
              refine hK.out _ _ ?_ (fun hHeld => ?_)
              · exact ⟨cell_alloc' hHeld.1 _, cell_alloc' hHeld.2.1 _, cell_alloc' hHeld.2.2.1 _, cell_alloc' hHeld.2.2.2.1 _, cell_alloc' hHeld.2.2.2.2.1 _, cell_alloc' hHeld.2.2.2.2.2.1 _, cell_alloc' hHeld.2.2.2.2.2.2.1 _, cell_alloc' hHeld.2.2.2.2.2.2.2.1 _, cell_alloc' hHeld.2.2.2.2.2.2.2.2.1 _, cell_alloc' hHeld.2.2.2.2.2.2.2.2.2.1 _, cell_alloc' hHeld.2.2.2.2.2.2.2.2.2.2.1 _, cell_alloc' hHeld.2.2.2.2.2.2.2.2.2.2.2.1 _, cell_alloc' hHeld.2.2.2.2.2.2.2.2.2.2.2.2.1 _, cell_alloc' hHeld.2.2.2.2.2.2.2.2.2.2.2.2.2.1 _, cell_alloc' hHeld.2.2.2.2.2.2.2.2.2.2.2.2.2.2.1 _, cell_alloc' hHeld.2.2.2.2.2.2.2.2.2.2.2.2.2.2.2.1 _, cell_alloc' hHeld.2.2.2.2.2.2.2.2.2.2.2.2.2.2.2.2 _⟩
              clear hK K
              (try simp only [Act.put, List.setIfInBounds_toArray, List.set_cons_zero, List.set_cons_succ, List.getElem_toArray, List.getElem_cons_zero, List.getElem_cons_succ])
              refine wpAnyH_ready (rs := [8]) (by kernel_rfl) (by simp) ?_
              refine AllReadyH.cons rfl (fun K hK => ?_) ?_
              · go_simp
                refine (implS _ _ _ _ _ _ _ _ _ _ _ _ _ _ _ _ _ _ C I v S n W HW.out _ KC.out KI.out KS.out m1 m2 m3 m4 m5 m6 m7 m8 m9 (HT.out.below (below_then HB.out HR.out))).mono ?_
                rintro e wk9 ⟨y1, y2, y3, z1, z2, z3, _, _, _, rfl, hb, hst⟩
                (try have FR := Hid.mk (Mac.far_new hst.fre (blk_lt AV.out)))
                have HR := Hid.mk (below_then HR.out hb)
                (try have KC := Hid.mk (KC.out.below hb))
                (try have KI := Hid.mk (KI.out.below hb))
                (try have KS := Hid.mk (KS.out.below hb))
                (try have SW := Hid.mk (SW.out.below hb))
                (try have AV := Hid.mk (blk_below AV.out hb))
                have SW := Hid.mk hst.st
                refine hK.out _ _ ?_ (fun hHeld => ?_)
                · exact ⟨cell_keep hb hHeld.1, cell_keep hb hHeld.2.1, cell_keep hb hHeld.2.2.1, cell_keep hb hHeld.2.2.2.1, cell_keep hb hHeld.2.2.2.2.1, cell_keep hb hHeld.2.2.2.2.2.1, cell_keep hb hHeld.2.2.2.2.2.2.1, cell_keep hb hHeld.2.2.2.2.2.2.2.1, cell_keep hb hHeld.2.2.2.2.2.2.2.2.1, cell_keep hb hHeld.2.2.2.2.2.2.2.2.2.1, cell_keep hb hHeld.2.2.2.2.2.2.2.2.2.2.1, cell_keep hb hHeld.2.2.2.2.2.2.2.2.2.2.2.1, cell_keep hb hHeld.2.2.2.2.2.2.2.2.2.2.2.2.1, cell_keep hb hHeld.2.2.2.2.2.2.2.2.2.2.2.2.2.1, cell_keep hb hHeld.2.2.2.2.2.2.2.2.2.2.2.2.2.2.1, cell_keep hb hHeld.2.2.2.2.2.2.2.2.2.2.2.2.2.2.2.1, cell_keep hb hHeld.2.2.2.2.2.2.2.2.2.2.2.2.2.2.2.2⟩
                clear hK K
                (try simp only [Act.put, List.setIfInBounds_toArray, List.set_cons_zero, List.set_cons_succ, List.getElem_toArray, List.getElem_cons_zero, List.getElem_cons_succ])
                refine wpAnyH_ready (rs := [10]) (by kernel_rfl) (by simp) ?_
                refine AllReadyH.cons rfl (fun K hK => ?_) ?_
                · rw [if_pos (by rfl)]
                  refine wp_store_row _ _ _ rfl _ #[.int .i64 W.p, .int .i64 W.r, .int .i64 W.d, .int .i64 W.t, .int .i64 W.s, .int .i64 W.l, .slice y1 W.n1 z1, .slice y2 W.n2 z2, .slice y3 W.n3 z3] rfl rfl _ _ AV.out Mac.infoSt rfl (by simp [Value.oneCell']) ?_
                  refine hK.out _ _ ?_ (fun hHeld => ?_)
                  · exact ⟨Mac.mcell_srow hHeld.1 (by have h1 := hV2.out; first | omega | (simp only [World.drew] at h1 ⊢; omega)), Mac.mcell_srow hHeld.2.1 (by have h1 := hV2.out; first | omega | (simp only [World.drew] at h1 ⊢; omega)), Mac.mcell_srow hHeld.2.2.1 (by have h1 := hV2.out; first | omega | (simp only [World.drew] at h1 ⊢; omega)), Mac.mcell_srow hHeld.2.2.2.1 (by have h1 := hV2.out; first | omega | (simp only [World.drew] at h1 ⊢; omega)), Mac.mcell_srow hHeld.2.2.2.2.1 (by have h1 := hV2.out; first | omega | (simp only [World.drew] at h1 ⊢; omega)), Mac.mcell_srow hHeld.2.2.2.2.2.1 (by have h1 := hV2.out; first | omega | (simp only [World.drew] at h1 ⊢; omega)), Mac.mcell_srow hHeld.2.2.2.2.2.2.1 (by have h1 := hV2.out; first | omega | (simp only [World.drew] at h1 ⊢; omega)), Mac.mcell_srow hHeld.2.2.2.2.2.2.2.1 (by have h1 := hV2.out; first | omega | (simp only [World.drew] at h1 ⊢; omega)), Mac.mcell_srow hHeld.2.2.2.2.2.2.2.2.1 (by have h1 := hV2.out; first | omega | (simp only [World.drew] at h1 ⊢; omega)), Mac.mcell_srow hHeld.2.2.2.2.2.2.2.2.2.1 (by have h1 := hV2.out; first | omega | (simp only [World.drew] at h1 ⊢; omega)), Mac.mcell_srow hHeld.2.2.2.2.2.2.2.2.2.2.1 (by have h1 := hV2.out; first | omega | (simp only [World.drew] at h1 ⊢; omega)), Mac.mcell_srow hHeld.2.2.2.2.2.2.2.2.2.2.2.1 (by have h1 := hV2.out; first | omega | (simp only [World.drew] at h1 ⊢; omega)), Mac.mcell_srow hHeld.2.2.2.2.2.2.2.2.2.2.2.2.1 (by have h1 := hV2.out; first | omega | (simp only [World.drew] at h1 ⊢; omega)), Mac.mcell_srow hHeld.2.2.2.2.2.2.2.2.2.2.2.2.2.1 (by have h1 := hV2.out; first | omega | (simp only [World.drew] at h1 ⊢; omega)), Mac.mcell_srow hHeld.2.2.2.2.2.2.2.2.2.2.2.2.2.2.1 (by have h1 := hV2.out; first | omega | (simp only [World.drew] at h1 ⊢; omega)), Mac.mcell_srow hHeld.2.2.2.2.2.2.2.2.2.2.2.2.2.2.2.1 (by have h1 := hV2.out; first | omega | (simp only [World.drew] at h1 ⊢; omega)), Mac.mcell_srow hHeld.2.2.2.2.2.2.2.2.2.2.2.2.2.2.2.2 (by have h1 := hV2.out; first | omega | (simp only [World.drew] at h1 ⊢; omega))⟩
                  clear hK K
                  (try simp only [Act.put, List.setIfInBounds_toArray, List.set_cons_zero, List.set_cons_succ, List.getElem_toArray, List.getElem_cons_zero, List.getElem_cons_succ])
                  refine wpAnyH_done (by kernel_rfl) ?_ _
                  go_wp2_with fail
                  go_meet
                  exact ⟨_, y1, y2, y3, z1, z2, z3, rfl, Hid.mk (Mac.row_below HR.out hV.out _), Hid.mk (Mac.row_self AV.out _), Hid.mk (Mac.st_row SW.out FR.out _)⟩
                exact AllReadyH.nil
              exact AllReadyH.nil
            exact AllReadyH.nil
          refine AllReadyH.cons rfl (fun K hK => ?_) ?_
          · go_simp
            (try have FR := Hid.mk (Mac.far_lt SW.out))
            have AV := Hid.mk (Mac.mblk_of HR.out (.cells #[.int .i64 0, .int .i64 0, .int .i64 0, .int .i64 0, .int .i64 0, .int .i64 0, .slice none 0 0, .slice none 0 0, .slice none 0 0] 34))
            have hV := Hid.mk HR.out.size
            have hV2 := Hid.mk (Nat.lt_of_lt_of_le hwb.out hV.out)
            have HR := Hid.mk (HR.out.alloc HR.out.size (.cells #[.int .i64 0, .int .i64 0, .int .i64 0, .int .i64 0, .int .i64 0, .int .i64 0, .slice none 0 0, .slice none 0 0, .slice none 0 0] 34))
            (try have KC := Hid.mk (KC.out.below ((Below.refl _ _).alloc (Nat.le_refl _) (.cells #[.int .i64 0, .int .i64 0, .int .i64 0, .int .i64 0, .int .i64 0, .int .i64 0, .slice none 0 0, .slice none 0 0, .slice none 0 0] 34))))
            (try have KI := Hid.mk (KI.out.below ((Below.refl _ _).alloc (Nat.le_refl _) (.cells #[.int .i64 0, .int .i64 0, .int .i64 0, .int .i64 0, .int .i64 0, .int .i64 0, .slice none 0 0, .slice none 0 0, .slice none 0 0] 34))))
            (try have KS := Hid.mk (KS.out.below ((Below.refl _ _).alloc (Nat.le_refl _) (.cells #[.int .i64 0, .int .i64 0, .int .i64 0, .int .i64 0, .int .i64 0, .int .i64 0, .slice none 0 0, .slice none 0 0, .slice none 0 0] 34))))
            (try have SW := Hid.mk (SW.out.below ((Below.refl _ _).alloc (Nat.le_refl _) (.cells #[.int .i64 0, .int .i64 0, .int .i64 0, .int .i64 0, .int .i64 0, .int .i64 0, .slice none 0 0, .slice none 0 0, .slice none 0 0] 34))))
            refine hK.out _ _ ?_ (fun hHeld => ?_)
            · exact ⟨cell_alloc' hHeld.1 _, cell_alloc' hHeld.2.1 _, cell_alloc' hHeld.2.2.1 _, cell_alloc' hHeld.2.2.2.1 _, cell_alloc' hHeld.2.2.2.2.1 _, cell_alloc' hHeld.2.2.2.2.2.1 _, cell_alloc' hHeld.2.2.2.2.2.2.1 _, cell_alloc' hHeld.2.2.2.2.2.2.2.1 _, cell_alloc' hHeld.2.2.2.2.2.2.2.2.1 _, cell_alloc' hHeld.2.2.2.2.2.2.2.2.2.1 _, cell_alloc' hHeld.2.2.2.2.2.2.2.2.2.2.1 _, cell_alloc' hHeld.2.2.2.2.2.2.2.2.2.2.2.1 _, cell_alloc' hHeld.2.2.2.2.2.2.2.2.2.2.2.2.1 _, cell_alloc' hHeld.2.2.2.2.2.2.2.2.2.2.2.2.2.1 _, cell_alloc' hHeld.2.2.2.2.2.2.2.2.2.2.2.2.2.2.1 _, cell_alloc' hHeld.2.2.2.2.2.2.2.2.2.2.2.2.2.2.2.1 _, cell_alloc' hHeld.2.2.2.2.2.2.2.2.2.2.2.2.2.2.2.2 _⟩
            clear hK K
            (try simp only [Act.put, List.setIfInBounds_toArray, List.set_cons_zero, List.set_cons_succ, List.getElem_toArray, List.getElem_cons_zero, List.getElem_cons_succ])
            refine wpAnyH_ready (rs := [6]) (by kernel_rfl) (by simp) ?_
            refine AllReadyH.cons rfl (fun K hK => ?_) ?_
            · go_simp
              refine (Copy.toState s1 s2 s3 t1 t2 t3 S _ (HS.out.below (below_then HB.out HR.out)) m7 m8 m9).mono ?_
              rintro e wk2 ⟨p1, p2, p3, rfl, hb, hcp, -⟩
              have HR := Hid.mk (below_then HR.out hb)
              (try have KC := Hid.mk (KC.out.below hb))
              (try have KI := Hid.mk (KI.out.below hb))
              (try have KS := Hid.mk (KS.out.below hb))
              (try have SW := Hid.mk (SW.out.below hb))
              (try have AV := Hid.mk (blk_below AV.out hb))
              have KS := Hid.mk hcp
              refine hK.out _ _ ?_ (fun hHeld => ?_)
              · exact ⟨cell_keep hb hHeld.1, cell_keep hb hHeld.2.1, cell_keep hb hHeld.2.2.1, cell_keep hb hHeld.2.2.2.1, cell_keep hb hHeld.2.2.2.2.1, cell_keep hb hHeld.2.2.2.2.2.1, cell_keep hb hHeld.2.2.2.2.2.2.1, cell_keep hb hHeld.2.2.2.2.2.2.2.1, cell_keep hb hHeld.2.2.2.2.2.2.2.2.1, cell_keep hb hHeld.2.2.2.2.2.2.2.2.2.1, cell_keep hb hHeld.2.2.2.2.2.2.2.2.2.2.1, cell_keep hb hHeld.2.2.2.2.2.2.2.2.2.2.2.1, cell_keep hb hHeld.2.2.2.2.2.2.2.2.2.2.2.2.1, cell_keep hb hHeld.2.2.2.2.2.2.2.2.2.2.2.2.2.1, cell_keep hb hHeld.2.2.2.2.2.2.2.2.2.2.2.2.2.2.1, cell_keep hb hHeld.2.2.2.2.2.2.2.2.2.2.2.2.2.2.2.1, cell_keep hb hHeld.2.2.2.2.2.2.2.2.2.2.2.2.2.2.2.2⟩
              clear hK K
              (try simp only [Act.put, List.setIfInBounds_toArray, List.set_cons_zero, List.set_cons_succ, List.getElem_toArray, List.getElem_cons_zero, List.getElem_cons_succ])
              refine wpAnyH_ready (rs := [8]) (by kernel_rfl) (by simp) ?_
              refine AllReadyH.cons rfl (fun K hK => ?_) ?_
              · go_simp
                refine (implS _ _ _ _ _ _ _ _ _ _ _ _ _ _ _ _ _ _ C I v S n W HW.out _ KC.out KI.out KS.out m1 m2 m3 m4 m5 m6 m7 m8 m9 (HT.out.below (below_then HB.out HR.out))).mono ?_
                rintro e wk9 ⟨y1, y2, y3, z1, z2, z3, _, _, _, rfl, hb, hst⟩
                (try have FR := Hid.mk (Mac.far_new hst.fre (blk_lt AV.out)))
                have HR := Hid.mk (below_then HR.out hb)
                (try have KC := Hid.mk (KC.out.below hb))
                (try have KI := Hid.mk (KI.out.below hb))
                (try have KS := Hid.mk (KS.out.below hb))
                (try have SW := Hid.mk (SW.out.below hb))
                (try have AV := Hid.mk (blk_below AV.out hb))
                have SW := Hid.mk hst.st
                refine hK.out _ _ ?_ (fun hHeld => ?_)
                · exact ⟨cell_keep hb hHeld.1, cell_keep hb hHeld.2.1, cell_keep hb hHeld.2.2.1, cell_keep hb hHeld.2.2.2.1, cell_keep hb hHeld.2.2.2.2.1, cell_keep hb hHeld.2.2.2.2.2.1, cell_keep hb hHeld.2.2.2.2.2.2.1, cell_keep hb hHeld.2.2.2.2.2.2.2.1, cell_keep hb hHeld.2.2.2.2.2.2.2.2.1, cell_keep hb hHeld.2.2.2.2.2.2.2.2.2.1, cell_keep hb hHeld.2.2.2.2.2.2.2.2.2.2.1, cell_keep hb hHeld.2.2.2.2.2.2.2.2.2.2.2.1, cell_keep hb hHeld.2.2.2.2.2.2.2.2.2.2.2.2.1, cell_keep hb hHeld.2.2.2.2.2.2.2.2.2.2.2.2.2.1, cell_keep hb hHeld.2.2.2.2.2.2.2.2.2.2.2.2.2.2.1, cell_keep hb hHeld.2.2.2.2.2.2.2.2.2.2.2.2.2.2.2.1, cell_keep hb hHeld.2.2.2.2.2.2.2.2.2.2.2.2.2.2.2.2⟩
                clear hK K
                (try simp only [Act.put, List.setIfInBounds_toArray, List.set_cons_zero, List.set_cons_succ, List.getElem_toArray, List.getElem_cons_zero, List.getElem_cons_succ])
                refine wpAnyH_ready (rs := [10]) (by kernel_rfl) (by simp) ?_
                refine AllReadyH.cons rfl (fun K hK => ?_) ?_
                · rw [if_pos (by rfl)]
                  refine wp_store_row _ _ _ rfl _ #[.int .i64 W.p, .int .i64 W.r, .int .i64 W.d, .int .i64 W.t, .int .i64 W.s, .int .i64 W.l, .slice y1 W.n1 z1, .slice y2 W.n2 z2, .slice y3 W.n3 z3] rfl rfl _ _ AV.out Mac.infoSt rfl (by simp [Value.oneCell']) ?_
                  refine hK.out _ _ ?_ (fun hHeld => ?_)
                  · exact ⟨Mac.mcell_srow hHeld.1 (by have h1 := hV2.out; first | omega | (simp only [World.drew] at h1 ⊢; omega)), Mac.mcell_srow hHeld.2.1 (by have h1 := hV2.out; first | omega | (simp only [World.drew] at h1 ⊢; omega)), Mac.mcell_srow hHeld.2.2.1 (by have h1 := hV2.out; first | omega | (simp only [World.drew] at h1 ⊢; omega)), Mac.mcell_srow hHeld.2.2.2.1 (by have h1 := hV2.out; first | omega | (simp only [World.drew] at h1 ⊢; omega)), Mac.mcell_srow hHeld.2.2.2.2.1 (by have h1 := hV2.out; first | omega | (simp only [World.drew] at h1 ⊢; omega)), Mac.mcell_srow hHeld.2.2.2.2.2.1 (by have h1 := hV2.out; first | omega | (simp only [World.drew] at h1 ⊢; omega)), Mac.mcell_srow hHeld.2.2.2.2.2.2.1 (by have h1 := hV2.out; first | omega | (simp only [World.drew] at h1 ⊢; omega)), Mac.mcell_srow hHeld.2.2.2.2.2.2.2.1 (by have h1 := hV2.out; first | omega | (simp only [World.drew] at h1 ⊢; omega)), Mac.mcell_srow hHeld.2.2.2.2.2.2.2.2.1 (by have h1 := hV2.out; first | omega | (simp only [World.drew] at h1 ⊢; omega)), Mac.mcell_srow hHeld.2.2.2.2.2.2.2.2.2.1 (by have h1 := hV2.out; first | omega | (simp only [World.drew] at h1 ⊢; omega)), Mac.mcell_srow hHeld.2.2.2.2.2.2.2.2.2.2.1 (by have h1 := hV2.out; first | omega | (simp only [World.drew] at h1 ⊢; omega)), Mac.mcell_srow hHeld.2.2.2.2.2.2.2.2.2.2.2.1 (by have h1 := hV2.out; first | omega | (simp only [World.drew] at h1 ⊢; omega)), Mac.mcell_srow hHeld.2.2.2.2.2.2.2.2.2.2.2.2.1 (by have h1 := hV2.out; first | omega | (simp only [World.drew] at h1 ⊢; omega)), Mac.mcell_srow hHeld.2.2.2.2.2.2.2.2.2.2.2.2.2.1 (by have h1 := hV2.out; first | omega | (simp only [World.drew] at h1 ⊢; omega)), Mac.mcell_srow hHeld.2.2.2.2.2.2.2.2.2.2.2.2.2.2.1 (by have h1 := hV2.out; first | omega | (simp only [World.drew] at h1 ⊢; omega)), Mac.mcell_srow hHeld.2.2.2.2.2.2.2.2.2.2.2.2.2.2.2.1 (by have h1 := hV2.out; first | omega | (simp only [World.drew] at h1 ⊢; omega)), Mac.mcell_srow hHeld.2.2.2.2.2.2.2.2.2.2.2.2.2.2.2.2 (by have h1 := hV2.out; first | omega | (simp only [World.drew] at h1 ⊢; omega))⟩
                  clear hK K
                  (try simp only [Act.put, List.setIfInBounds_toArray, List.set_cons_zero, List.set_cons_succ, List.getElem_toArray, List.getElem_cons_zero, List.getElem_cons_succ])
                  refine wpAnyH_done (by kernel_rfl) ?_ _
                  go_wp2_with fail
                  go_meet
                  exact ⟨_, y1, y2, y3, z1, z2, z3, rfl, Hid.mk (Mac.row_below HR.out hV.out _), Hid.mk (Mac.row_self AV.out _), Hid.mk (Mac.st_row SW.out FR.out _)⟩
                exact AllReadyH.nil
              exact AllReadyH.nil
            exact AllReadyH.nil
          exact AllReadyH.nil
        refine AllReadyH.cons rfl (fun K hK => ?_) ?_
        · go_simp
          (try have FR := Hid.mk (Mac.far_lt SW.out))
          have AV := Hid.mk (Mac.mblk_of HR.out (.cells #[.int .i64 0, .int .i64 0, .int .i64 0, .int .i64 0, .int .i64 0, .int .i64 0, .slice none 0 0, .slice none 0 0, .slice none 0 0] 34))
          have hV := Hid.mk HR.out.size
          have hV2 := Hid.mk (Nat.lt_of_lt_of_le hwb.out hV.out)
          have HR := Hid.mk (HR.out.alloc HR.out.size (.cells #[.int .i64 0, .int .i64 0, .int .i64 0, .int .i64 0, .int .i64 0, .int .i64 0, .slice none 0 0, .slice none 0 0, .slice none 0 0] 34))
          (try have KC := Hid.mk (KC.out.below ((Below.refl _ _).alloc (Nat.le_refl _) (.cells #[.int .i64 0, .int .i64 0, .int .i64 0, .int .i64 0, .int .i64 0, .int .i64 0, .slice none 0 0, .slice none 0 0, .slice none 0 0] 34))))
          (try have KI := Hid.mk (KI.out.below ((Below.refl _ _).alloc (Nat.le_refl _) (.cells #[.int .i64 0, .int .i64 0, .int .i64 0, .int .i64 0, .int .i64 0, .int .i64 0, .slice none 0 0, .slice none 0 0, .slice none 0 0] 34))))
          (try have KS := Hid.mk (KS.out.below ((Below.refl _ _).alloc (Nat.le_refl _) (.cells #[.int .i64 0, .int .i64 0, .int .i64 0, .int .i64 0, .int .i64 0, .int .i64 0, .slice none 0 0, .slice none 0 0, .slice none 0 0] 34))))
          (try have SW := Hid.mk (SW.out.below ((Below.refl _ _).alloc (Nat.le_refl _) (.cells #[.int .i64 0, .int .i64 0, .int .i64 0, .int .i64 0, .int .i64 0, .int .i64 0, .slice none 0 0, .slice none 0 0, .slice none 0 0] 34))))
          refine hK.out _ _ ?_ (fun hHeld => ?_)
          · exact ⟨cell_alloc' hHeld.1 _, cell_alloc' hHeld.2.1 _, cell_alloc' hHeld.2.2.1 _, cell_alloc' hHeld.2.2.2.1 _, cell_alloc' hHeld.2.2.2.2.1 _, cell_alloc' hHeld.2.2.2.2.2.1 _, cell_alloc' hHeld.2.2.2.2.2.2.1 _, cell_alloc' hHeld.2.2.2.2.2.2.2.1 _, cell_alloc' hHeld.2.2.2.2.2.2.2.2.1 _, cell_alloc' hHeld.2.2.2.2.2.2.2.2.2.1 _, cell_alloc' hHeld.2.2.2.2.2.2.2.2.2.2.1 _, cell_alloc' hHeld.2.2.2.2.2.2.2.2.2.2.2.1 _, cell_alloc' hHeld.2.2.2.2.2.2.2.2.2.2.2.2.1 _, cell_alloc' hHeld.2.2.2.2.2.2.2.2.2.2.2.2.2.1 _, cell_alloc' hHeld.2.2.2.2.2.2.2.2.2.2.2.2.2.2.1 _, cell_alloc' hHeld.2.2.2.2.2.2.2.2.2.2.2.2.2.2.2.1 _, cell_alloc' hHeld.2.2.2.2.2.2.2.2.2.2.2.2.2.2.2.2 _⟩
          clear hK K
          (try simp only [Act.put, List.setIfInBounds_toArray, List.set_cons_zero, List.set_cons_succ, List.getElem_toArray, List.getElem_cons_zero, List.getElem_cons_succ])
          refine wpAnyH_ready (rs := [3]) (by kernel_rfl) (by simp) ?_
          refine AllReadyH.cons rfl (fun K hK => ?_) ?_
          · go_simp
            refine (Copy.toInst b1 b2 b3 d1 d2 d3 I _ (HI.out.below (below_then HB.out HR.out)) m4 m5 m6).mono ?_
            rintro e wk1 ⟨p1, p2, p3, rfl, hb, hcp, -⟩
            have HR := Hid.mk (below_then HR.out hb)
            (try have KC := Hid.mk (KC.out.below hb))
            (try have KI := Hid.mk (KI.out.below hb))
            (try have KS := Hid.mk (KS.out.below hb))
            (try have SW := Hid.mk (SW.out.below hb))
            (try have AV := Hid.mk (blk_below AV.out hb))
            have KI := Hid.mk hcp
            refine hK.out _ _ ?_ (fun hHeld => ?_)
            · exact ⟨cell_keep hb hHeld.1, cell_keep hb hHeld.2.1, cell_keep hb hHeld.2.2.1, cell_keep hb hHeld.2.2.2.1, cell_keep hb hHeld.2.2.2.2.1, cell_keep hb hHeld.2.2.2.2.2.1, cell_keep hb hHeld.2.2.2.2.2.2.1, cell_keep hb hHeld.2.2.2.2.2.2.2.1, cell_keep hb hHeld.2.2.2.2.2.2.2.2.1, cell_keep hb hHeld.2.2.2.2.2.2.2.2.2.1, cell_keep hb hHeld.2.2.2.2.2.2.2.2.2.2.1, cell_keep hb hHeld.2.2.2.2.2.2.2.2.2.2.2.1, cell_keep hb hHeld.2.2.2.2.2.2.2.2.2.2.2.2.1, cell_keep hb hHeld.2.2.2.2.2.2.2.2.2.2.2.2.2.1, cell_keep hb hHeld.2.2.2.2.2.2.2.2.2.2.2.2.2.2.1, cell_keep hb hHeld.2.2.2.2.2.2.2.2.2.2.2.2.2.2.2.1, cell_keep hb hHeld.2.2.2.2.2.2.2.2.2.2.2.2.2.2.2.2⟩
            clear hK K
            (try simp only [Act.put, List.setIfInBounds_toArray, List.set_cons_zero, List.set_cons_succ, List.getElem_toArray, List.getElem_cons_zero, List.getElem_cons_succ])
            refine wpAnyH_ready (rs := [6]) (by kernel_rfl) (by simp) ?_
            refine AllReadyH.cons rfl (fun K hK => ?_) ?_
            · go_simp
              refine (Copy.toState s1 s2 s3 t1 t2 t3 S _ (HS.out.below (below_then HB.out HR.out)) m7 m8 m9).mono ?_
              rintro e wk2 ⟨p1, p2, p3, rfl, hb, hcp, -⟩
              have HR := Hid.mk (below_then HR.out hb)
              (try have KC := Hid.mk (KC.out.below hb))
              (try have KI := Hid.mk (KI.out.below hb))
              (try have KS := Hid.mk (KS.out.below hb))
              (try have SW := Hid.mk (SW.out.below hb))
              (try have AV := Hid.mk (blk_below AV.out hb))
              have KS := Hid.mk hcp
              refine hK.out _ _ ?_ (fun hHeld => ?_)
              · exact ⟨cell_keep hb hHeld.1, cell_keep hb hHeld.2.1, cell_keep hb hHeld.2.2.1, cell_keep hb hHeld.2.2.2.1, cell_keep hb hHeld.2.2.2.2.1, cell_keep hb hHeld.2.2.2.2.2.1, cell_keep hb hHeld.2.2.2.2.2.2.1, cell_keep hb hHeld.2.2.2.2.2.2.2.1, cell_keep hb hHeld.2.2.2.2.2.2.2.2.1, cell_keep hb hHeld.2.2.2.2.2.2.2.2.2.1, cell_keep hb hHeld.2.2.2.2.2.2.2.2.2.2.1, cell_keep hb hHeld.2.2.2.2.2.2.2.2.2.2.2.1, cell_keep hb hHeld.2.2.2.2.2.2.2.2.2.2.2.2.1, cell_keep hb hHeld.2.2.2.2.2.2.2.2.2.2.2.2.2.1, cell_keep hb hHeld.2.2.2.2.2.2.2.2.2.2.2.2.2.2.1, cell_keep hb hHeld.2.2.2.2.2.2.2.2.2.2.2.2.2.2.2.1, cell_keep hb hHeld.2.2.2.2.2.2.2.2.2.2.2.2.2.2.2.2⟩
              clear hK K
              (try simp only [Act.put, List.setIfInBounds_toArray, List.set_cons_zero, List.set_cons_succ, List.getElem_toArray, List.getElem_cons_zero, List.getElem_cons_succ])
              refine wpAnyH_ready (rs := [8]) (by kernel_rfl) (by simp) ?_
              refine AllReadyH.cons rfl (fun K hK => ?_) ?_
              · go_simp
                refine (implS _ _ _ _ _ _ _ _ _ _ _ _ _ _ _ _ _ _ C I v S n W HW.out _ KC.out KI.out KS.out m1 m2 m3 m4 m5 m6 m7 m8 m9 (HT.out.below (below_then HB.out HR.out))).mono ?_
                rintro e wk9 ⟨y1, y2, y3, z1, z2, z3, _, _, _, rfl, hb, hst⟩
                (try have FR := Hid.mk (Mac.far_new hst.fre (blk_lt AV.out)))
                have HR := Hid.mk (below_then HR.out hb)
                (try have KC := Hid.mk (KC.out.below hb))
                (try have KI := Hid.mk (KI.out.below hb))
                (try have KS := Hid.mk (KS.out.below hb))
                (try have SW := Hid.mk (SW.out.below hb))
                (try have AV := Hid.mk (blk_below AV.out hb))
                have SW := Hid.mk hst.st
                refine hK.out _ _ ?_ (fun hHeld => ?_)
                · exact ⟨cell_keep hb hHeld.1, cell_keep hb hHeld.2.1, cell_keep hb hHeld.2.2.1, cell_keep hb hHeld.2.2.2.1, cell_keep hb hHeld.2.2.2.2.1, cell_keep hb hHeld.2.2.2.2.2.1, cell_keep hb hHeld.2.2.2.2.2.2.1, cell_keep hb hHeld.2.2.2.2.2.2.2.1, cell_keep hb hHeld.2.2.2.2.2.2.2.2.1, cell_keep hb hHeld.2.2.2.2.2.2.2.2.2.1, cell_keep hb hHeld.2.2.2.2.2.2.2.2.2.2.1, cell_keep hb hHeld.2.2.2.2.2.2.2.2.2.2.2.1, cell_keep hb hHeld.2.2.2.2.2.2.2.2.2.2.2.2.1, cell_keep hb hHeld.2.2.2.2.2.2.2.2.2.2.2.2.2.1, cell_keep hb hHeld.2.2.2.2.2.2.2.2.2.2.2.2.2.2.1, cell_keep hb hHeld.2.2.2.2.2.2.2.2.2.2.2.2.2.2.2.1, cell_keep hb hHeld.2.2.2.2.2.2.2.2.2.2.2.2.2.2.2.2⟩
                clear hK K
                (try simp only [Act.put, List.setIfInBounds_toArray, List.set_cons_zero, List.set_cons_succ, List.getElem_toArray, List.getElem_cons_zero, List.getElem_cons_succ])
                refine wpAnyH_ready (rs := [10]) (by kernel_rfl) (by simp) ?_
                refine AllReadyH.cons rfl (fun K hK => ?_) ?_
                · rw [if_pos (by rfl)]
                  refine wp_store_row _ _ _ rfl _ #[.int .i64 W.p, .int .i64 W.r, .int .i64 W.d, .int .i64 W.t, .int .i64 W.s, .int .i64 W.l, .slice y1 W.n1 z1, .slice y2 W.n2 z2, .slice y3 W.n3 z3] rfl rfl _ _ AV.out Mac.infoSt rfl (by simp [Value.oneCell']) ?_
                  refine hK.out _ _ ?_ (fun hHeld => ?_)
                  · exact ⟨Mac.mcell_srow hHeld.1 (by have h1 := hV2.out; first | omega | (simp only [World.drew] at h1 ⊢; omega)), Mac.mcell_srow hHeld.2.1 (by have h1 := hV2.out; first | omega | (simp only [World.drew] at h1 ⊢; omega)), Mac.mcell_srow hHeld.2.2.1 (by have h1 := hV2.out; first | omega | (simp only [World.drew] at h1 ⊢; omega)), Mac.mcell_srow hHeld.2.2.2.1 (by have h1 := hV2.out; first | omega | (simp only [World.drew] at h1 ⊢; omega)), Mac.mcell_srow hHeld.2.2.2.2.1 (by have h1 := hV2.out; first | omega | (simp only [World.drew] at h1 ⊢; omega)), Mac.mcell_srow hHeld.2.2.2.2.2.1 (by have h1 := hV2.out; first | omega | (simp only [World.drew] at h1 ⊢; omega)), Mac.mcell_srow hHeld.2.2.2.2.2.2.1 (by have h1 := hV2.out; first | omega | (simp only [World.drew] at h1 ⊢; omega)), Mac.mcell_srow hHeld.2.2.2.2.2.2.2.1 (by have h1 := hV2.out; first | omega | (simp only [World.drew] at h1 ⊢; omega)), Mac.mcell_srow hHeld.2.2.2.2.2.2.2.2.1 (by have h1 := hV2.out; first | omega | (simp only [World.drew] at h1 ⊢; omega)), Mac.mcell_srow hHeld.2.2.2.2.2.2.2.2.2.1 (by have h1 := hV2.out; first | omega | (simp only [World.drew] at h1 ⊢; omega)), Mac.mcell_srow hHeld.2.2.2.2.2.2.2.2.2.2.1 (by have h1 := hV2.out; first | omega | (simp only [World.drew] at h1 ⊢; omega)), Mac.mcell_srow hHeld.2.2.2.2.2.2.2.2.2.2.2.1 (by have h1 := hV2.out; first | omega | (simp only [World.drew] at h1 ⊢; omega)), Mac.mcell_srow hHeld.2.2.2.2.2.2.2.2.2.2.2.2.1 (by have h1 := hV2.out; first | omega | (simp only [World.drew] at h1 ⊢; omega)), Mac.mcell_srow hHeld.2.2.2.2.2.2.2.2.2.2.2.2.2.1 (by have h1 := hV2.out; first | omega | (simp only [World.drew] at h1 ⊢; omega)), Mac.mcell_srow hHeld.2.2.2.2.2.2.2.2.2.2.2.2.2.2.1 (by have h1 := hV2.out; first | omega | (simp only [World.drew] at h1 ⊢; omega)), Mac.mcell_srow hHeld.2.2.2.2.2.2.2.2.2.2.2.2.2.2.2.1 (by have h1 := hV2.out; first | omega | (simp only [World.drew] at h1 ⊢; omega)), Mac.mcell_srow hHeld.2.2.2.2.2.2.2.2.2.2.2.2.2.2.2.2 (by have h1 := hV2.out; first | omega | (simp only [World.drew] at h1 ⊢; omega))⟩
                  clear hK K
                  (try simp only [Act.put, List.setIfInBounds_toArray, List.set_cons_zero, List.set_cons_succ, List.getElem_toArray, List.getElem_cons_zero, List.getElem_cons_succ])
                  refine wpAnyH_done (by kernel_rfl) ?_ _
                  go_wp2_with fail
                  go_meet
                  exact ⟨_, y1, y2, y3, z1, z2, z3, rfl, Hid.mk (Mac.row_below HR.out hV.out _), Hid.mk (Mac.row_self AV.out _), Hid.mk (Mac.st_row SW.out FR.out _)⟩
                exact AllReadyH.nil
              exact AllReadyH.nil
            exact AllReadyH.nil
          exact AllReadyH.nil
        exact AllReadyH.nil
      refine AllReadyH.cons rfl (fun K hK => ?_) ?_
      · go_simp
        (try have FR := Hid.mk (Mac.far_lt SW.out))
        have AV := Hid.mk (Mac.mblk_of HR.out (.cells #[.int .i64 0, .int .i64 0, .int .i64 0, .int .i64 0, .int .i64 0, .int .i64 0, .slice none 0 0, .slice none 0 0, .slice none 0 0] 34))
        have hV := Hid.mk HR.out.size
        have hV2 := Hid.mk (Nat.lt_of_lt_of_le hwb.out hV.out)
        have HR := Hid.mk (HR.out.alloc HR.out.size (.cells #[.int .i64 0, .int .i64 0, .int .i64 0, .int .i64 0, .int .i64 0, .int .i64 0, .slice none 0 0, .slice none 0 0, .slice none 0 0] 34))
        (try have KC := Hid.mk (KC.out.below ((Below.refl _ _).alloc (Nat.le_refl _) (.cells #[.int .i64 0, .int .i64 0, .int .i64 0, .int .i64 0, .int .i64 0, .int .i64 0, .slice none 0 0, .slice none 0 0, .slice none 0 0] 34))))
        (try have KI := Hid.mk (KI.out.below ((Below.refl _ _).alloc (Nat.le_refl _) (.cells #[.int .i64 0, .int .i64 0, .int .i64 0, .int .i64 0, .int .i64 0, .int .i64 0, .slice none 0 0, .slice none 0 0, .slice none 0 0] 34))))
        (try have KS := Hid.mk (KS.out.below ((Below.refl _ _).alloc (Nat.le_refl _) (.cells #[.int .i64 0, .int .i64 0, .int .i64 0, .int .i64 0, .int .i64 0, .int .i64 0, .slice none 0 0, .slice none 0 0, .slice none 0 0] 34))))
        (try have SW := Hid.mk (SW.out.below ((Below.refl _ _).alloc (Nat.le_refl _) (.cells #[.int .i64 0, .int .i64 0, .int .i64 0, .int .i64 0, .int .i64 0, .int .i64 0, .slice none 0 0, .slice none 0 0, .slice none 0 0] 34))))
        refine hK.out _ _ ?_ (fun hHeld => ?_)
        · exact ⟨cell_alloc' hHeld.1 _, cell_alloc' hHeld.2.1 _, cell_alloc' hHeld.2.2.1 _, cell_alloc' hHeld.2.2.2.1 _, cell_alloc' hHeld.2.2.2.2.1 _, cell_alloc' hHeld.2.2.2.2.2.1 _, cell_alloc' hHeld.2.2.2.2.2.2.1 _, cell_alloc' hHeld.2.2.2.2.2.2.2.1 _, cell_alloc' hHeld.2.2.2.2.2.2.2.2.1 _, cell_alloc' hHeld.2.2.2.2.2.2.2.2.2.1 _, cell_alloc' hHeld.2.2.2.2.2.2.2.2.2.2.1 _, cell_alloc' hHeld.2.2.2.2.2.2.2.2.2.2.2.1 _, cell_alloc' hHeld.2.2.2.2.2.2.2.2.2.2.2.2.1 _, cell_alloc' hHeld.2.2.2.2.2.2.2.2.2.2.2.2.2.1 _, cell_alloc' hHeld.2.2.2.2.2.2.2.2.2.2.2.2.2.2.1 _, cell_alloc' hHeld.2.2.2.2.2.2.2.2.2.2.2.2.2.2.2.1 _, cell_alloc' hHeld.2.2.2.2.2.2.2.2.2.2.2.2.2.2.2.2 _⟩
        clear hK K
        (try simp only [Act.put, List.setIfInBounds_toArray, List.set_cons_zero, List.set_cons_succ, List.getElem_toArray, List.getElem_cons_zero, List.getElem_cons_succ])
        refine wpAnyH_ready (rs := [1]) (by kernel_rfl) (by simp) ?_
        refine AllReadyH.cons rfl (fun K hK => ?_) ?_
        · go_simp
          refine (Copy.toCode a1 a2 a3 c1 c2 c3 C _ (HC.out.below (below_then HB.out HR.out)) m1 m2 m3).mono ?_
          rintro e wk0 ⟨p1, p2, p3, rfl, hb, hcp, -⟩
          have HR := Hid.mk (below_then HR.out hb)
          (try have KC := Hid.mk (KC.out.below hb))
          (try have KI := Hid.mk (KI.out.below hb))
          (try have KS := Hid.mk (KS.out.below hb))
          (try have SW := Hid.mk (SW.out.below hb))
          (try have AV := Hid.mk (blk_below AV.out hb))
          have KC := Hid.mk hcp
          refine hK.out _ _ ?_ (fun hHeld => ?_)
          · exact ⟨cell_keep hb hHeld.1, cell_keep hb hHeld.2.1, cell_keep hb hHeld.2.2.1, cell_keep hb hHeld.2.2.2.1, cell_keep hb hHeld.2.2.2.2.1, cell_keep hb hHeld.2.2.2.2.2.1, cell_keep hb hHeld.2.2.2.2.2.2.1, cell_keep hb hHeld.2.2.2.2.2.2.2.1, cell_keep hb hHeld.2.2.2.2.2.2.2.2.1, cell_keep hb hHeld.2.2.2.2.2.2.2.2.2.1, cell_keep hb hHeld.2.2.2.2.2.2.2.2.2.2.1, cell_keep hb hHeld.2.2.2.2.2.2.2.2.2.2.2.1, cell_keep hb hHeld.2.2.2.2.2.2.2.2.2.2.2.2.1, cell_keep hb hHeld.2.2.2.2.2.2.2.2.2.2.2.2.2.1, cell_keep hb hHeld.2.2.2.2.2.2.2.2.2.2.2.2.2.2.1, cell_keep hb hHeld.2.2.2.2.2.2.2.2.2.2.2.2.2.2.2.1, cell_keep hb hHeld.2.2.2.2.2.2.2.2.2.2.2.2.2.2.2.2⟩
          clear hK K
          (try simp only [Act.put, List.setIfInBounds_toArray, List.set_cons_zero, List.set_cons_succ, List.getElem_toArray, List.getElem_cons_zero, List.getElem_cons_succ])
          refine wpAnyH_ready (rs := [3]) (by kernel_rfl) (by simp) ?_
          refine AllReadyH.cons rfl (fun K hK => ?_) ?_
          · go_simp
            refine (Copy.toInst b1 b2 b3 d1 d2 d3 I _ (HI.out.below (below_then HB.out HR.out)) m4 m5 m6).mono ?_
            rintro e wk1 ⟨p1, p2, p3, rfl, hb, hcp, -⟩
            have HR := Hid.mk (below_then HR.out hb)
            (try have KC := Hid.mk (KC.out.below hb))
            (try have KI := Hid.mk (KI.out.below hb))
            (try have KS := Hid.mk (KS.out.below hb))
            (try have SW := Hid.mk (SW.out.below hb))
            (try have AV := Hid.mk (blk_below AV.out hb))
            have KI := Hid.mk hcp
            refine hK.out _ _ ?_ (fun hHeld => ?_)
            · exact ⟨cell_keep hb hHeld.1, cell_keep hb hHeld.2.1, cell_keep hb hHeld.2.2.1, cell_keep hb hHeld.2.2.2.1, cell_keep hb hHeld.2.2.2.2.1, cell_keep hb hHeld.2.2.2.2.2.1, cell_keep hb hHeld.2.2.2.2.2.2.1, cell_keep hb hHeld.2.2.2.2.2.2.2.1, cell_keep hb hHeld.2.2.2.2.2.2.2.2.1, cell_keep hb hHeld.2.2.2.2.2.2.2.2.2.1, cell_keep hb hHeld.2.2.2.2.2.2.2.2.2.2.1, cell_keep hb hHeld.2.2.2.2.2.2.2.2.2.2.2.1, cell_keep hb hHeld.2.2.2.2.2.2.2.2.2.2.2.2.1, cell_keep hb hHeld.2.2.2.2.2.2.2.2.2.2.2.2.2.1, cell_keep hb hHeld.2.2.2.2.2.2.2.2.2.2.2.2.2.2.1, cell_keep hb hHeld.2.2.2.2.2.2.2.2.2.2.2.2.2.2.2.1, cell_keep hb hHeld.2.2.2.2.2.2.2.2.2.2.2.2.2.2.2.2⟩
            clear hK K
            (try simp only [Act.put, List.setIfInBounds_toArray, List.set_cons_zero, List.set_cons_succ, List.getElem_toArray, List.getElem_cons_zero, List.getElem_cons_succ])
            refine wpAnyH_ready (rs := [6]) (by kernel_rfl) (by simp) ?_
            refine AllReadyH.cons rfl (fun K hK => ?_) ?_
            · go_simp
              refine (Copy.toState s1 s2 s3 t1 t2 t3 S _ (HS.out.below (below_then HB.out HR.out)) m7 m8 m9).mono ?_
              rintro e wk2 ⟨p1, p2, p3, rfl, hb, hcp, -⟩
              have HR := Hid.mk (below_then HR.out hb)
              (try have KC := Hid.mk (KC.out.below hb))
              (try have KI := Hid.mk (KI.out.below hb))
              (try have KS := Hid.mk (KS.out.below hb))
              (try have SW := Hid.mk (SW.out.below hb))
              (try have AV := Hid.mk (blk_below AV.out hb))
              have KS := Hid.mk hcp
              refine hK.out _ _ ?_ (fun hHeld => ?_)
              · exact ⟨cell_keep hb hHeld.1, cell_keep hb hHeld.2.1, cell_keep hb hHeld.2.2.1, cell_keep hb hHeld.2.2.2.1, cell_keep hb hHeld.2.2.2.2.1, cell_keep hb hHeld.2.2.2.2.2.1, cell_keep hb hHeld.2.2.2.2.2.2.1, cell_keep hb hHeld.2.2.2.2.2.2.2.1, cell_keep hb hHeld.2.2.2.2.2.2.2.2.1, cell_keep hb hHeld.2.2.2.2.2.2.2.2.2.1, cell_keep hb hHeld.2.2.2.2.2.2.2.2.2.2.1, cell_keep hb hHeld.2.2.2.2.2.2.2.2.2.2.2.1, cell_keep hb hHeld.2.2.2.2.2.2.2.2.2.2.2.2.1, cell_keep hb hHeld.2.2.2.2.2.2.2.2.2.2.2.2.2.1, cell_keep hb hHeld.2.2.2.2.2.2.2.2.2.2.2.2.2.2.1, cell_keep hb hHeld.2.2.2.2.2.2.2.2.2.2.2.2.2.2.2.1, cell_keep hb hHeld.2.2.2.2.2.2.2.2.2.2.2.2.2.2.2.2⟩
              clear hK K
              (try simp only [Act.put, List.setIfInBounds_toArray, List.set_cons_zero, List.set_cons_succ, List.getElem_toArray, List.getElem_cons_zero, List.getElem_cons_succ])
              refine wpAnyH_ready (rs := [8]) (by kernel_rfl) (by simp) ?_
              refine AllReadyH.cons rfl (fun K hK => ?_) ?_
              · go_simp
                refine (implS _ _ _ _ _ _ _ _ _ _ _ _ _ _ _ _ _ _ C I v S n W HW.out _ KC.out KI.out KS.out m1 m2 m3 m4 m5 m6 m7 m8 m9 (HT.out.below (below_then HB.out HR.out))).mono ?_
                rintro e wk9 ⟨y1, y2, y3, z1, z2, z3, _, _, _, rfl, hb, hst⟩
                (try have FR := Hid.mk (Mac.far_new hst.fre (blk_lt AV.out)))
                have HR := Hid.mk (below_then HR.out hb)
                (try have KC := Hid.mk (KC.out.below hb))
                (try have KI := Hid.mk (KI.out.below hb))
                (try have KS := Hid.mk (KS.out.below hb))
                (try have SW := Hid.mk (SW.out.below hb))
                (try have AV := Hid.mk (blk_below AV.out hb))
                have SW := Hid.mk hst.st
                refine hK.out _ _ ?_ (fun hHeld => ?_)
                · exact ⟨cell_keep hb hHeld.1, cell_keep hb hHeld.2.1, cell_keep hb hHeld.2.2.1, cell_keep hb hHeld.2.2.2.1, cell_keep hb hHeld.2.2.2.2.1, cell_keep hb hHeld.2.2.2.2.2.1, cell_keep hb hHeld.2.2.2.2.2.2.1, cell_keep hb hHeld.2.2.2.2.2.2.2.1, cell_keep hb hHeld.2.2.2.2.2.2.2.2.1, cell_keep hb hHeld.2.2.2.2.2.2.2.2.2.1, cell_keep hb hHeld.2.2.2.2.2.2.2.2.2.2.1, cell_keep hb hHeld.2.2.2.2.2.2.2.2.2.2.2.1, cell_keep hb hHeld.2.2.2.2.2.2.2.2.2.2.2.2.1, cell_keep hb hHeld.2.2.2.2.2.2.2.2.2.2.2.2.2.1, cell_keep hb hHeld.2.2.2.2.2.2.2.2.2.2.2.2.2.2.1, cell_keep hb hHeld.2.2.2.2.2.2.2.2.2.2.2.2.2.2.2.1, cell_keep hb hHeld.2.2.2.2.2.2.2.2.2.2.2.2.2.2.2.2⟩
                clear hK K
                (try simp only [Act.put, List.setIfInBounds_toArray, List.set_cons_zero, List.set_cons_succ, List.getElem_toArray, List.getElem_cons_zero, List.getElem_cons_succ])
                refine wpAnyH_ready (rs := [10]) (by kernel_rfl) (by simp) ?_
                refine AllReadyH.cons rfl (fun K hK => ?_) ?_
                · rw [if_pos (by rfl)]
                  refine wp_store_row _ _ _ rfl _ #[.int .i64 W.p, .int .i64 W.r, .int .i64 W.d, .int .i64 W.t, .int .i64 W.s, .int .i64 W.l, .slice y1 W.n1 z1, .slice y2 W.n2 z2, .slice y3 W.n3 z3] rfl rfl _ _ AV.out Mac.infoSt rfl (by simp [Value.oneCell']) ?_
                  refine hK.out _ _ ?_ (fun hHeld => ?_)
                  · exact ⟨Mac.mcell_srow hHeld.1 (by have h1 := hV2.out; first | omega | (simp only [World.drew] at h1 ⊢; omega)), Mac.mcell_srow hHeld.2.1 (by have h1 := hV2.out; first | omega | (simp only [World.drew] at h1 ⊢; omega)), Mac.mcell_srow hHeld.2.2.1 (by have h1 := hV2.out; first | omega | (simp only [World.drew] at h1 ⊢; omega)), Mac.mcell_srow hHeld.2.2.2.1 (by have h1 := hV2.out; first | omega | (simp only [World.drew] at h1 ⊢; omega)), Mac.mcell_srow hHeld.2.2.2.2.1 (by have h1 := hV2.out; first | omega | (simp only [World.drew] at h1 ⊢; omega)), Mac.mcell_srow hHeld.2.2.2.2.2.1 (by have h1 := hV2.out; first | omega | (simp only [World.drew] at h1 ⊢; omega)), Mac.mcell_srow hHeld.2.2.2.2.2.2.1 (by have h1 := hV2.out; first | omega | (simp only [World.drew] at h1 ⊢; omega)), Mac.mcell_srow hHeld.2.2.2.2.2.2.2.1 (by have h1 := hV2.out; first | omega | (simp only [World.drew] at h1 ⊢; omega)), Mac.mcell_srow hHeld.2.2.2.2.2.2.2.2.1 (by have h1 := hV2.out; first | omega | (simp only [World.drew] at h1 ⊢; omega)), Mac.mcell_srow hHeld.2.2.2.2.2.2.2.2.2.1 (by have h1 := hV2.out; first | omega | (simp only [World.drew] at h1 ⊢; omega)), Mac.mcell_srow hHeld.2.2.2.2.2.2.2.2.2.2.1 (by have h1 := hV2.out; first | omega | (simp only [World.drew] at h1 ⊢; omega)), Mac.mcell_srow hHeld.2.2.2.2.2.2.2.2.2.2.2.1 (by have h1 := hV2.out; first | omega | (simp only [World.drew] at h1 ⊢; omega)), Mac.mcell_srow hHeld.2.2.2.2.2.2.2.2.2.2.2.2.1 (by have h1 := hV2.out; first | omega | (simp only [World.drew] at h1 ⊢; omega)), Mac.mcell_srow hHeld.2.2.2.2.2.2.2.2.2.2.2.2.2.1 (by have h1 := hV2.out; first | omega | (simp only [World.drew] at h1 ⊢; omega)), Mac.mcell_srow hHeld.2.2.2.2.2.2.2.2.2.2.2.2.2.2.1 (by have h1 := hV2.out; first | omega | (simp only [World.drew] at h1 ⊢; omega)), Mac.mcell_srow hHeld.2.2.2.2.2.2.2.2.2.2.2.2.2.2.2.1 (by have h1 := hV2.out; first | omega | (simp only [World.drew] at h1 ⊢; omega)), Mac.mcell_srow hHeld.2.2.2.2.2.2.2.2.2.2.2.2.2.2.2.2 (by have h1 := hV2.out; first | omega | (simp only [World.drew] at h1 ⊢; omega))⟩
                  clear hK K
                  (try simp only [Act.put, List.setIfInBounds_toArray, List.set_cons_zero, List.set_cons_succ, List.getElem_toArray, List.getElem_cons_zero, List.getElem_cons_succ])
                  refine wpAnyH_done (by kernel_rfl) ?_ _
                  go_wp2_with fail
                  go_meet
                  exact ⟨_, y1, y2, y3, z1, z2, z3, rfl, Hid.mk (Mac.row_below HR.out hV.out _), Hid.mk (Mac.row_self AV.out _), Hid.mk (Mac.st_row SW.out FR.out _)⟩
                exact AllReadyH.nil
              exact AllReadyH.nil
            exact AllReadyH.nil
          exact AllReadyH.nil
        exact AllReadyH.nil
      exact AllReadyH.nil
    case rest =>
      obtain ⟨V', y1', y2', y3', z1', z2', z3', rfl, BW, V1, SW⟩ := hcut
      have VX := Hid.mk (blk_below V0m.out BW.out)
      have SX := Hid.mk (SWm.out.below BW.out)
      have HX := Hid.mk (below_then HB.out BW.out)
      clear V0m SWm HB
      have x0 := blk_cell V1.out 0
      have x1 := blk_cell V1.out 1
      have x2 := blk_cell V1.out 2
      have x3 := blk_cell V1.out 3
      have x4 := blk_cell V1.out 4
      have x5 := blk_cell V1.out 5
      have x6 := blk_cell V1.out 6
      have x7 := blk_cell V1.out 7
      have x8 := blk_cell V1.out 8
      have y0 := blk_cell VX.out 0
      have y1 := blk_cell VX.out 1
      have y2 := blk_cell VX.out 2
      have y3 := blk_cell VX.out 3
      have y4 := blk_cell VX.out 4
      have y5 := blk_cell VX.out 5
      have y6 := blk_cell VX.out 6
      have y7 := blk_cell VX.out 7
      have y8 := blk_cell VX.out 8
      simp only [List.getElem?_toArray, List.getElem?_cons_zero, List.getElem?_cons_succ] at x0 x1 x2 x3 x4 x5 x6 x7 x8 y0 y1 y2 y3 y4 y5 y6 y7 y8
      go_wp2_with fail
      clear x0 x1 x2 x3 x4 x5 x6 x7 x8 y0 y1 y2 y3 y4 y5 y6 y7 y8
      refine (Eq.eqState _ _ _ _ _ _ _ _ _ _ _ _ W _ SW.out SX.out LN.out.1 LN.out.2.1 LN.out.2.2).mono ?_
      rintro e fz ⟨rfl, hb⟩
      have HY := Hid.mk (below_then HX.out hb)
      clear hb
      go_wp2
      go_ret
      exact ⟨rfl, HY.out⟩
end Go.Proofs.YtgooegcmgejfpaaGreatDoor.LawStep
