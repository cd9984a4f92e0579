import Derived.Test.YtfoigigbggickaaDoorPq27
namespace Go.Proofs.YtfoigigbggickaaDoor.Par
open Go Go.RowKit Go.Proofs.YtfoigigbggickaaDoor.Mem Go.Proofs.YtfoigigbggickaaDoor.Syn Go.Proofs.YtfoigigbggickaaDoor.Parse
set_option linter.unusedVariables false
set_option linter.unusedSimpArgs false
set_option maxHeartbeats 6400000
set_option maxRecDepth 1000000
attribute [local go_sem ↓] Go.wp_at_zero Go.wp_at_succ
theorem un24A {t : List UInt8} {g N c a i o : Nat} {w wr : World} {st : List Ent} {out : List Po} {Q : Exit → Act → World → Prop} {v0 v3 ov sv wt v7 v8 v9 v10 v11 v12 v13 v14 v15 : Value} {r : List Value} (hr : r.length = 357) {A B : Code} (hT : Hid (Tq t N g w)) (hN5 : N ≤ 100000) (hi : i < N) (M : Hid (Mz g N c a w (i : Int) (o : Int) sv st ov out wr))  (hk : (tkT t i).k = 10) (hn : Hid (∀ r' wx, r'.length = 357 → Below wr.heap.size wr wx → Code.wp Tryd.prog A Q (Fz w v0 v3 ov sv wt v7 v8 v9 v10 v11 v12 v13 v14 v15 r') wx)) :
    Code.wp Tryd.prog (.seq (sL xNL) (.cond (.tmp 105) A B)) Q (Fz w v0 v3 ov sv wt v7 v8 v9 v10 v11 v12 v13 v14 v15 r) wr := by
  have C0 : Hid (∀ W, Below wr.heap.size wr W → Calls Tryd.prog 40 #[.agg #[.slice (some ⟨g, 0, none⟩) N c, .int .i64 (i : Int), .int .i64 (o : Int), .int .i64 0, .int .i64 (a : Int)], .string ⟨#[45]⟩] W fun e' w' => e' = .returned (.bool true) ∧ Below W.heap.size W w') := fun W hb => by
    have := isWordS t g N c i o 0 a (twAt 10) W (hT.out.below (below_then M.out.bel hb)) hi hN5
    rw [isW_k (tk_cl t i) (by omega) (by omega), show decide ((tkT t i).k = 10) = true by simp; omega] at this
    exact this
  have H0 : Hid (Below wr.heap.size wr wr) := Below.refl _ _
  have b0 := (blk_cell M.out.b 0).trans rfl
  have b1 := (blk_cell M.out.b 1).trans rfl
  have b2 := (blk_cell M.out.b 2).trans rfl
  have b3 := (blk_cell M.out.b 3).trans rfl
  have b4 := (blk_cell M.out.b 4).trans rfl
  clear hk
  revert r
  refine @elim_out 357 _ ?_
  iterate 357 (intro _)
  show Code.wp _ _ _ _ _
  conv => arg 2; dsimp only [xNL, xW, xX, xL, x0, Tryd.f27, Option.getD, sR, sL, cT, cF, bk, lpo]
  conv => arg 4; dsimp only [Fz]
  go_wp2_with fail
  refine (C0.out _ H0.out).mono ?_
  rintro e' w2 ⟨rfl, hb⟩
  have H1 := Hid.mk (below_then H0.out hb)
  clear hb b0 b1 b2 b3 b4 
  have b0 := (blk_cell (blk_below M.out.b H1.out) 0).trans rfl
  have b1 := (blk_cell (blk_below M.out.b H1.out) 1).trans rfl
  have b2 := (blk_cell (blk_below M.out.b H1.out) 2).trans rfl
  have b3 := (blk_cell (blk_below M.out.b H1.out) 3).trans rfl
  have b4 := (blk_cell (blk_below M.out.b H1.out) 4).trans rfl
  go_wp2_with fail
  refine hn.out _ _ ?_ H1.out
  rfl
theorem un24C {t : List UInt8} {g N c a i o : Nat} {w wr : World} {st : List Ent} {out : List Po} {Q : Exit → Act → World → Prop} {v0 v3 ov sv wt v7 v8 v9 v10 v11 v12 v13 v14 v15 : Value} {r : List Value} (hr : r.length = 357) {A B : Code} (hT : Hid (Tq t N g w)) (hN5 : N ≤ 100000) (hi : i < N) (M : Hid (Mz g N c a w (i : Int) (o : Int) sv st ov out wr))  (hk : (tkT t i).k = 47) (hn : Hid (∀ r' wx, r'.length = 357 → Below wr.heap.size wr wx → Code.wp Tryd.prog A Q (Fz w v0 v3 ov sv wt v7 v8 v9 v10 v11 v12 v13 v14 v15 r') wx)) :
    Code.wp Tryd.prog (.seq (sL xNL) (.cond (.tmp 105) A B)) Q (Fz w v0 v3 ov sv wt v7 v8 v9 v10 v11 v12 v13 v14 v15 r) wr := by
  have C0 : Hid (∀ W, Below wr.heap.size wr W → Calls Tryd.prog 40 #[.agg #[.slice (some ⟨g, 0, none⟩) N c, .int .i64 (i : Int), .int .i64 (o : Int), .int .i64 0, .int .i64 (a : Int)], .string ⟨#[45]⟩] W fun e' w' => e' = .returned (.bool false) ∧ Below W.heap.size W w') := fun W hb => by
    have := isWordS t g N c i o 0 a (twAt 10) W (hT.out.below (below_then M.out.bel hb)) hi hN5
    rw [isW_k (tk_cl t i) (by omega) (by omega), show decide ((tkT t i).k = 10) = false by simp; omega] at this
    exact this
  have C1 : Hid (∀ W, Below wr.heap.size wr W → Calls Tryd.prog 40 #[.agg #[.slice (some ⟨g, 0, none⟩) N c, .int .i64 (i : Int), .int .i64 (o : Int), .int .i64 0, .int .i64 (a : Int)], .string ⟨#[110, 111, 116]⟩] W fun e' w' => e' = .returned (.bool true) ∧ Below W.heap.size W w') := fun W hb => by
    have := isWordS t g N c i o 0 a (twAt 47) W (hT.out.below (below_then M.out.bel hb)) hi hN5
    rw [isW_k (tk_cl t i) (by omega) (by omega), show decide ((tkT t i).k = 47) = true by simp; omega] at this
    exact this
  have H0 : Hid (Below wr.heap.size wr wr) := Below.refl _ _
  have b0 := (blk_cell M.out.b 0).trans rfl
  have b1 := (blk_cell M.out.b 1).trans rfl
  have b2 := (blk_cell M.out.b 2).trans rfl
  have b3 := (blk_cell M.out.b 3).trans rfl
  have b4 := (blk_cell M.out.b 4).trans rfl
  clear hk
  revert r
  refine @elim_out 357 _ ?_
  iterate 357 (intro _)
  show Code.wp _ _ _ _ _
  conv => arg 2; dsimp only [xNL, xW, xX, xL, x0, Tryd.f27, Option.getD, sR, sL, cT, cF, bk, lpo]
  conv => arg 4; dsimp only [Fz]
  go_wp2_with fail
  refine (C0.out _ H0.out).mono ?_
  rintro e' w2 ⟨rfl, hb⟩
  have H1 := Hid.mk (below_then H0.out hb)
  clear hb b0 b1 b2 b3 b4 
  have b0 := (blk_cell (blk_below M.out.b H1.out) 0).trans rfl
  have b1 := (blk_cell (blk_below M.out.b H1.out) 1).trans rfl
  have b2 := (blk_cell (blk_below M.out.b H1.out) 2).trans rfl
  have b3 := (blk_cell (blk_below M.out.b H1.out) 3).trans rfl
  have b4 := (blk_cell (blk_below M.out.b H1.out) 4).trans rfl
  go_wp2_with fail
  refine (C1.out _ H1.out).mono ?_
  rintro e' w3 ⟨rfl, hb⟩
  have H2 := Hid.mk (below_then H1.out hb)
  clear hb b0 b1 b2 b3 b4 
  have b0 := (blk_cell (blk_below M.out.b H2.out) 0).trans rfl
  have b1 := (blk_cell (blk_below M.out.b H2.out) 1).trans rfl
  have b2 := (blk_cell (blk_below M.out.b H2.out) 2).trans rfl
  have b3 := (blk_cell (blk_below M.out.b H2.out) 3).trans rfl
  have b4 := (blk_cell (blk_below M.out.b H2.out) 4).trans rfl
  go_wp2_with fail
  refine hn.out _ _ ?_ H2.out
  rfl
theorem un24B {t : List UInt8} {g N c a i o : Nat} {w wr : World} {st : List Ent} {out : List Po} {Q : Exit → Act → World → Prop} {v0 v3 ov sv wt v7 v8 v9 v10 v11 v12 v13 v14 v15 : Value} {r : List Value} (hr : r.length = 357) {A B : Code} (hT : Hid (Tq t N g w)) (hN5 : N ≤ 100000) (hi : i < N) (M : Hid (Mz g N c a w (i : Int) (o : Int) sv st ov out wr))  (hk : (tkT t i).k ≠ 10 ∧ (tkT t i).k ≠ 47) (hn : Hid (∀ r' wx, r'.length = 357 → Below wr.heap.size wr wx → Code.wp Tryd.prog B Q (Fz w v0 v3 ov sv wt v7 v8 v9 v10 v11 v12 v13 v14 v15 r') wx)) :
    Code.wp Tryd.prog (.seq (sL xNL) (.cond (.tmp 105) A B)) Q (Fz w v0 v3 ov sv wt v7 v8 v9 v10 v11 v12 v13 v14 v15 r) wr := by
  have C0 : Hid (∀ W, Below wr.heap.size wr W → Calls Tryd.prog 40 #[.agg #[.slice (some ⟨g, 0, none⟩) N c, .int .i64 (i : Int), .int .i64 (o : Int), .int .i64 0, .int .i64 (a : Int)], .string ⟨#[45]⟩] W fun e' w' => e' = .returned (.bool false) ∧ Below W.heap.size W w') := fun W hb => by
    have := isWordS t g N c i o 0 a (twAt 10) W (hT.out.below (below_then M.out.bel hb)) hi hN5
    rw [isW_k (tk_cl t i) (by omega) (by omega), show decide ((tkT t i).k = 10) = false by simp; omega] at this
    exact this
  have C1 : Hid (∀ W, Below wr.heap.size wr W → Calls Tryd.prog 40 #[.agg #[.slice (some ⟨g, 0, none⟩) N c, .int .i64 (i : Int), .int .i64 (o : Int), .int .i64 0, .int .i64 (a : Int)], .string ⟨#[110, 111, 116]⟩] W fun e' w' => e' = .returned (.bool false) ∧ Below W.heap.size W w') := fun W hb => by
    have := isWordS t g N c i o 0 a (twAt 47) W (hT.out.below (below_then M.out.bel hb)) hi hN5
    rw [isW_k (tk_cl t i) (by omega) (by omega), show decide ((tkT t i).k = 47) = false by simp; omega] at this
    exact this
  have H0 : Hid (Below wr.heap.size wr wr) := Below.refl _ _
  have b0 := (blk_cell M.out.b 0).trans rfl
  have b1 := (blk_cell M.out.b 1).trans rfl
  have b2 := (blk_cell M.out.b 2).trans rfl
  have b3 := (blk_cell M.out.b 3).trans rfl
  have b4 := (blk_cell M.out.b 4).trans rfl
  clear hk
  revert r
  refine @elim_out 357 _ ?_
  iterate 357 (intro _)
  show Code.wp _ _ _ _ _
  conv => arg 2; dsimp only [xNL, xW, xX, xL, x0, Tryd.f27, Option.getD, sR, sL, cT, cF, bk, lpo]
  conv => arg 4; dsimp only [Fz]
  go_wp2_with fail
  refine (C0.out _ H0.out).mono ?_
  rintro e' w2 ⟨rfl, hb⟩
  have H1 := Hid.mk (below_then H0.out hb)
  clear hb b0 b1 b2 b3 b4 
  have b0 := (blk_cell (blk_below M.out.b H1.out) 0).trans rfl
  have b1 := (blk_cell (blk_below M.out.b H1.out) 1).trans rfl
  have b2 := (blk_cell (blk_below M.out.b H1.out) 2).trans rfl
  have b3 := (blk_cell (blk_below M.out.b H1.out) 3).trans rfl
  have b4 := (blk_cell (blk_below M.out.b H1.out) 4).trans rfl
  go_wp2_with fail
  refine (C1.out _ H1.out).mono ?_
  rintro e' w3 ⟨rfl, hb⟩
  have H2 := Hid.mk (below_then H1.out hb)
  clear hb b0 b1 b2 b3 b4 
  have b0 := (blk_cell (blk_below M.out.b H2.out) 0).trans rfl
  have b1 := (blk_cell (blk_below M.out.b H2.out) 1).trans rfl
  have b2 := (blk_cell (blk_below M.out.b H2.out) 2).trans rfl
  have b3 := (blk_cell (blk_below M.out.b H2.out) 3).trans rfl
  have b4 := (blk_cell (blk_below M.out.b H2.out) 4).trans rfl
  go_wp2_with fail
  refine hn.out _ _ ?_ H2.out
  rfl
theorem par35A {t : List UInt8} {g N c a i o : Nat} {w wr : World} {st : List Ent} {out : List Po} {Q : Exit → Act → World → Prop} {v0 v3 ov sv wt v7 v8 v9 v10 v11 v12 v13 v14 v15 : Value} {r : List Value} (hr : r.length = 357) {A B : Code} (hT : Hid (Tq t N g w)) (hN5 : N ≤ 100000) (hi : i < N) (M : Hid (Mz g N c a w (i : Int) (o : Int) sv st ov out wr))  (hk : (tkT t i).k = 5) (hn : Hid (∀ r' wx, r'.length = 357 → Below wr.heap.size wr wx → Code.wp Tryd.prog A Q (Fz w v0 v3 ov sv wt v7 v8 v9 v10 v11 v12 v13 v14 v15 r') wx)) :
    Code.wp Tryd.prog (.seq (sL xPO) (.cond (.tmp 135) A B)) Q (Fz w v0 v3 ov sv wt v7 v8 v9 v10 v11 v12 v13 v14 v15 r) wr := by
  have C0 : Hid (∀ W, Below wr.heap.size wr W → Calls Tryd.prog 40 #[.agg #[.slice (some ⟨g, 0, none⟩) N c, .int .i64 (i : Int), .int .i64 (o : Int), .int .i64 0, .int .i64 (a : Int)], .string ⟨#[40]⟩] W fun e' w' => e' = .returned (.bool true) ∧ Below W.heap.size W w') := fun W hb => by
    have := isWordS t g N c i o 0 a (twAt 5) W (hT.out.below (below_then M.out.bel hb)) hi hN5
    rw [isW_k (tk_cl t i) (by omega) (by omega), show decide ((tkT t i).k = 5) = true by simp; omega] at this
    exact this
  have H0 : Hid (Below wr.heap.size wr wr) := Below.refl _ _
  have b0 := (blk_cell M.out.b 0).trans rfl
  have b1 := (blk_cell M.out.b 1).trans rfl
  have b2 := (blk_cell M.out.b 2).trans rfl
  have b3 := (blk_cell M.out.b 3).trans rfl
  have b4 := (blk_cell M.out.b 4).trans rfl
  clear hk
  revert r
  refine @elim_out 357 _ ?_
  iterate 357 (intro _)
  show Code.wp _ _ _ _ _
  conv => arg 2; dsimp only [xPO, xNL, xW, xX, xL, x0, Tryd.f27, Option.getD, sR, sL, cT, cF, bk, lpo]
  conv => arg 4; dsimp only [Fz]
  go_wp2_with fail
  refine (C0.out _ H0.out).mono ?_
  rintro e' w2 ⟨rfl, hb⟩
  have H1 := Hid.mk (below_then H0.out hb)
  clear hb b0 b1 b2 b3 b4 
  have b0 := (blk_cell (blk_below M.out.b H1.out) 0).trans rfl
  have b1 := (blk_cell (blk_below M.out.b H1.out) 1).trans rfl
  have b2 := (blk_cell (blk_below M.out.b H1.out) 2).trans rfl
  have b3 := (blk_cell (blk_below M.out.b H1.out) 3).trans rfl
  have b4 := (blk_cell (blk_below M.out.b H1.out) 4).trans rfl
  go_wp2_with fail
  refine hn.out _ _ ?_ H1.out
  rfl
theorem par35B {t : List UInt8} {g N c a i o : Nat} {w wr : World} {st : List Ent} {out : List Po} {Q : Exit → Act → World → Prop} {v0 v3 ov sv wt v7 v8 v9 v10 v11 v12 v13 v14 v15 : Value} {r : List Value} (hr : r.length = 357) {A B : Code} (hT : Hid (Tq t N g w)) (hN5 : N ≤ 100000) (hi : i < N) (M : Hid (Mz g N c a w (i : Int) (o : Int) sv st ov out wr))  (hk : (tkT t i).k ≠ 5) (hn : Hid (∀ r' wx, r'.length = 357 → Below wr.heap.size wr wx → Code.wp Tryd.prog B Q (Fz w v0 v3 ov sv wt v7 v8 v9 v10 v11 v12 v13 v14 v15 r') wx)) :
    Code.wp Tryd.prog (.seq (sL xPO) (.cond (.tmp 135) A B)) Q (Fz w v0 v3 ov sv wt v7 v8 v9 v10 v11 v12 v13 v14 v15 r) wr := by
  have C0 : Hid (∀ W, Below wr.heap.size wr W → Calls Tryd.prog 40 #[.agg #[.slice (some ⟨g, 0, none⟩) N c, .int .i64 (i : Int), .int .i64 (o : Int), .int .i64 0, .int .i64 (a : Int)], .string ⟨#[40]⟩] W fun e' w' => e' = .returned (.bool false) ∧ Below W.heap.size W w') := fun W hb => by
    have := isWordS t g N c i o 0 a (twAt 5) W (hT.out.below (below_then M.out.bel hb)) hi hN5
    rw [isW_k (tk_cl t i) (by omega) (by omega), show decide ((tkT t i).k = 5) = false by simp; omega] at this
    exact this
  have H0 : Hid (Below wr.heap.size wr wr) := Below.refl _ _
  have b0 := (blk_cell M.out.b 0).trans rfl
  have b1 := (blk_cell M.out.b 1).trans rfl
  have b2 := (blk_cell M.out.b 2).trans rfl
  have b3 := (blk_cell M.out.b 3).trans rfl
  have b4 := (blk_cell M.out.b 4).trans rfl
  clear hk
  revert r
  refine @elim_out 357 _ ?_
  iterate 357 (intro _)
  show Code.wp _ _ _ _ _
  conv => arg 2; dsimp only [xPO, xNL, xW, xX, xL, x0, Tryd.f27, Option.getD, sR, sL, cT, cF, bk, lpo]
  conv => arg 4; dsimp only [Fz]
  go_wp2_with fail
  refine (C0.out _ H0.out).mono ?_
  rintro e' w2 ⟨rfl, hb⟩
  have H1 := Hid.mk (below_then H0.out hb)
  clear hb b0 b1 b2 b3 b4 
  have b0 := (blk_cell (blk_below M.out.b H1.out) 0).trans rfl
  have b1 := (blk_cell (blk_below M.out.b H1.out) 1).trans rfl
  have b2 := (blk_cell (blk_below M.out.b H1.out) 2).trans rfl
  have b3 := (blk_cell (blk_below M.out.b H1.out) 3).trans rfl
  have b4 := (blk_cell (blk_below M.out.b H1.out) 4).trans rfl
  go_wp2_with fail
  refine hn.out _ _ ?_ H1.out
  rfl
theorem call40A {t : List UInt8} {g N c a i o : Nat} {w wr : World} {st : List Ent} {out : List Po} {Q : Exit → Act → World → Prop} {v0 v3 ov sv wt v7 v8 v9 v10 v11 v12 v13 v14 v15 : Value} {r : List Value} (hr : r.length = 357) {A B : Code} (hT : Hid (Tq t N g w)) (hN5 : N ≤ 100000) (hi : i < N) (M : Hid (Mz g N c a w (i : Int) (o : Int) sv st ov out wr))  (hk : (tkT t i).k = 25) (hn : Hid (∀ r' wx, r'.length = 357 → Below wr.heap.size wr wx → Code.wp Tryd.prog A Q (Fz w v0 v3 ov sv wt v7 v8 v9 v10 v11 v12 v13 v14 v15 r') wx)) :
    Code.wp Tryd.prog (.seq (sL xCL) (.cond (.tmp 159) A B)) Q (Fz w v0 v3 ov sv wt v7 v8 v9 v10 v11 v12 v13 v14 v15 r) wr := by
  have C0 : Hid (∀ W, Below wr.heap.size wr W → Calls Tryd.prog 40 #[.agg #[.slice (some ⟨g, 0, none⟩) N c, .int .i64 (i : Int), .int .i64 (o : Int), .int .i64 0, .int .i64 (a : Int)], .string ⟨#[109, 105, 110]⟩] W fun e' w' => e' = .returned (.bool true) ∧ Below W.heap.size W w') := fun W hb => by
    have := isWordS t g N c i o 0 a (twAt 25) W (hT.out.below (below_then M.out.bel hb)) hi hN5
    rw [isW_k (tk_cl t i) (by omega) (by omega), show decide ((tkT t i).k = 25) = true by simp; omega] at this
    exact this
  have H0 : Hid (Below wr.heap.size wr wr) := Below.refl _ _
  have b0 := (blk_cell M.out.b 0).trans rfl
  have b1 := (blk_cell M.out.b 1).trans rfl
  have b2 := (blk_cell M.out.b 2).trans rfl
  have b3 := (blk_cell M.out.b 3).trans rfl
  have b4 := (blk_cell M.out.b 4).trans rfl
  clear hk
  revert r
  refine @elim_out 357 _ ?_
  iterate 357 (intro _)
  show Code.wp _ _ _ _ _
  conv => arg 2; dsimp only [xCL, xPO, xNL, xW, xX, xL, x0, Tryd.f27, Option.getD, sR, sL, cT, cF, bk, lpo]
  conv => arg 4; dsimp only [Fz]
  go_wp2_with fail
  refine (C0.out _ H0.out).mono ?_
  rintro e' w2 ⟨rfl, hb⟩
  have H1 := Hid.mk (below_then H0.out hb)
  clear hb b0 b1 b2 b3 b4 
  have b0 := (blk_cell (blk_below M.out.b H1.out) 0).trans rfl
  have b1 := (blk_cell (blk_below M.out.b H1.out) 1).trans rfl
  have b2 := (blk_cell (blk_below M.out.b H1.out) 2).trans rfl
  have b3 := (blk_cell (blk_below M.out.b H1.out) 3).trans rfl
  have b4 := (blk_cell (blk_below M.out.b H1.out) 4).trans rfl
  go_wp2_with fail
  refine hn.out _ _ ?_ H1.out
  rfl
theorem call40C {t : List UInt8} {g N c a i o : Nat} {w wr : World} {st : List Ent} {out : List Po} {Q : Exit → Act → World → Prop} {v0 v3 ov sv wt v7 v8 v9 v10 v11 v12 v13 v14 v15 : Value} {r : List Value} (hr : r.length = 357) {A B : Code} (hT : Hid (Tq t N g w)) (hN5 : N ≤ 100000) (hi : i < N) (M : Hid (Mz g N c a w (i : Int) (o : Int) sv st ov out wr))  (hk : (tkT t i).k = 26) (hn : Hid (∀ r' wx, r'.length = 357 → Below wr.heap.size wr wx → Code.wp Tryd.prog A Q (Fz w v0 v3 ov sv wt v7 v8 v9 v10 v11 v12 v13 v14 v15 r') wx)) :
    Code.wp Tryd.prog (.seq (sL xCL) (.cond (.tmp 159) A B)) Q (Fz w v0 v3 ov sv wt v7 v8 v9 v10 v11 v12 v13 v14 v15 r) wr := by
  have C0 : Hid (∀ W, Below wr.heap.size wr W → Calls Tryd.prog 40 #[.agg #[.slice (some ⟨g, 0, none⟩) N c, .int .i64 (i : Int), .int .i64 (o : Int), .int .i64 0, .int .i64 (a : Int)], .string ⟨#[109, 105, 110]⟩] W fun e' w' => e' = .returned (.bool false) ∧ Below W.heap.size W w') := fun W hb => by
    have := isWordS t g N c i o 0 a (twAt 25) W (hT.out.below (below_then M.out.bel hb)) hi hN5
    rw [isW_k (tk_cl t i) (by omega) (by omega), show decide ((tkT t i).k = 25) = false by simp; omega] at this
    exact this
  have C1 : Hid (∀ W, Below wr.heap.size wr W → Calls Tryd.prog 40 #[.agg #[.slice (some ⟨g, 0, none⟩) N c, .int .i64 (i : Int), .int .i64 (o : Int), .int .i64 0, .int .i64 (a : Int)], .string ⟨#[109, 97, 120]⟩] W fun e' w' => e' = .returned (.bool true) ∧ Below W.heap.size W w') := fun W hb => by
    have := isWordS t g N c i o 0 a (twAt 26) W (hT.out.below (below_then M.out.bel hb)) hi hN5
    rw [isW_k (tk_cl t i) (by omega) (by omega), show decide ((tkT t i).k = 26) = true by simp; omega] at this
    exact this
  have H0 : Hid (Below wr.heap.size wr wr) := Below.refl _ _
  have b0 := (blk_cell M.out.b 0).trans rfl
  have b1 := (blk_cell M.out.b 1).trans rfl
  have b2 := (blk_cell M.out.b 2).trans rfl
  have b3 := (blk_cell M.out.b 3).trans rfl
  have b4 := (blk_cell M.out.b 4).trans rfl
  clear hk
  revert r
  refine @elim_out 357 _ ?_
  iterate 357 (intro _)
  show Code.wp _ _ _ _ _
  conv => arg 2; dsimp only [xCL, xPO, xNL, xW, xX, xL, x0, Tryd.f27, Option.getD, sR, sL, cT, cF, bk, lpo]
  conv => arg 4; dsimp only [Fz]
  go_wp2_with fail
  refine (C0.out _ H0.out).mono ?_
  rintro e' w2 ⟨rfl, hb⟩
  have H1 := Hid.mk (below_then H0.out hb)
  clear hb b0 b1 b2 b3 b4 
  have b0 := (blk_cell (blk_below M.out.b H1.out) 0).trans rfl
  have b1 := (blk_cell (blk_below M.out.b H1.out) 1).trans rfl
  have b2 := (blk_cell (blk_below M.out.b H1.out) 2).trans rfl
  have b3 := (blk_cell (blk_below M.out.b H1.out) 3).trans rfl
  have b4 := (blk_cell (blk_below M.out.b H1.out) 4).trans rfl
  go_wp2_with fail
  refine (C1.out _ H1.out).mono ?_
  rintro e' w3 ⟨rfl, hb⟩
  have H2 := Hid.mk (below_then H1.out hb)
  clear hb b0 b1 b2 b3 b4 
  have b0 := (blk_cell (blk_below M.out.b H2.out) 0).trans rfl
  have b1 := (blk_cell (blk_below M.out.b H2.out) 1).trans rfl
  have b2 := (blk_cell (blk_below M.out.b H2.out) 2).trans rfl
  have b3 := (blk_cell (blk_below M.out.b H2.out) 3).trans rfl
  have b4 := (blk_cell (blk_below M.out.b H2.out) 4).trans rfl
  go_wp2_with fail
  refine hn.out _ _ ?_ H2.out
  rfl
theorem call40D {t : List UInt8} {g N c a i o : Nat} {w wr : World} {st : List Ent} {out : List Po} {Q : Exit → Act → World → Prop} {v0 v3 ov sv wt v7 v8 v9 v10 v11 v12 v13 v14 v15 : Value} {r : List Value} (hr : r.length = 357) {A B : Code} (hT : Hid (Tq t N g w)) (hN5 : N ≤ 100000) (hi : i < N) (M : Hid (Mz g N c a w (i : Int) (o : Int) sv st ov out wr))  (hk : (tkT t i).k = 27) (hn : Hid (∀ r' wx, r'.length = 357 → Below wr.heap.size wr wx → Code.wp Tryd.prog A Q (Fz w v0 v3 ov sv wt v7 v8 v9 v10 v11 v12 v13 v14 v15 r') wx)) :
    Code.wp Tryd.prog (.seq (sL xCL) (.cond (.tmp 159) A B)) Q (Fz w v0 v3 ov sv wt v7 v8 v9 v10 v11 v12 v13 v14 v15 r) wr := by
  have C0 : Hid (∀ W, Below wr.heap.size wr W → Calls Tryd.prog 40 #[.agg #[.slice (some ⟨g, 0, none⟩) N c, .int .i64 (i : Int), .int .i64 (o : Int), .int .i64 0, .int .i64 (a : Int)], .string ⟨#[109, 105, 110]⟩] W fun e' w' => e' = .returned (.bool false) ∧ Below W.heap.size W w') := fun W hb => by
    have := isWordS t g N c i o 0 a (twAt 25) W (hT.out.below (below_then M.out.bel hb)) hi hN5
    rw [isW_k (tk_cl t i) (by omega) (by omega), show decide ((tkT t i).k = 25) = false by simp; omega] at this
    exact this
  have C1 : Hid (∀ W, Below wr.heap.size wr W → Calls Tryd.prog 40 #[.agg #[.slice (some ⟨g, 0, none⟩) N c, .int .i64 (i : Int), .int .i64 (o : Int), .int .i64 0, .int .i64 (a : Int)], .string ⟨#[109, 97, 120]⟩] W fun e' w' => e' = .returned (.bool false) ∧ Below W.heap.size W w') := fun W hb => by
    have := isWordS t g N c i o 0 a (twAt 26) W (hT.out.below (below_then M.out.bel hb)) hi hN5
    rw [isW_k (tk_cl t i) (by omega) (by omega), show decide ((tkT t i).k = 26) = false by simp; omega] at this
    exact this
  have C2 : Hid (∀ W, Below wr.heap.size wr W → Calls Tryd.prog 40 #[.agg #[.slice (some ⟨g, 0, none⟩) N c, .int .i64 (i : Int), .int .i64 (o : Int), .int .i64 0, .int .i64 (a : Int)], .string ⟨#[105, 102]⟩] W fun e' w' => e' = .returned (.bool true) ∧ Below W.heap.size W w') := fun W hb => by
    have := isWordS t g N c i o 0 a (twAt 27) W (hT.out.below (below_then M.out.bel hb)) hi hN5
    rw [isW_k (tk_cl t i) (by omega) (by omega), show decide ((tkT t i).k = 27) = true by simp; omega] at this
    exact this
  have H0 : Hid (Below wr.heap.size wr wr) := Below.refl _ _
  have b0 := (blk_cell M.out.b 0).trans rfl
  have b1 := (blk_cell M.out.b 1).trans rfl
  have b2 := (blk_cell M.out.b 2).trans rfl
  have b3 := (blk_cell M.out.b 3).trans rfl
  have b4 := (blk_cell M.out.b 4).trans rfl
  clear hk
  revert r
  refine @elim_out 357 _ ?_
  iterate 357 (intro _)
  show Code.wp _ _ _ _ _
  conv => arg 2; dsimp only [xCL, xPO, xNL, xW, xX, xL, x0, Tryd.f27, Option.getD, sR, sL, cT, cF, bk, lpo]
  conv => arg 4; dsimp only [Fz]
  go_wp2_with fail
  refine (C0.out _ H0.out).mono ?_
  rintro e' w2 ⟨rfl, hb⟩
  have H1 := Hid.mk (below_then H0.out hb)
  clear hb b0 b1 b2 b3 b4 
  have b0 := (blk_cell (blk_below M.out.b H1.out) 0).trans rfl
  have b1 := (blk_cell (blk_below M.out.b H1.out) 1).trans rfl
  have b2 := (blk_cell (blk_below M.out.b H1.out) 2).trans rfl
  have b3 := (blk_cell (blk_below M.out.b H1.out) 3).trans rfl
  have b4 := (blk_cell (blk_below M.out.b H1.out) 4).trans rfl
  go_wp2_with fail
  refine (C1.out _ H1.out).mono ?_
  rintro e' w3 ⟨rfl, hb⟩
  have H2 := Hid.mk (below_then H1.out hb)
  clear hb b0 b1 b2 b3 b4 
  have b0 := (blk_cell (blk_below M.out.b H2.out) 0).trans rfl
  have b1 := (blk_cell (blk_below M.out.b H2.out) 1).trans rfl
  have b2 := (blk_cell (blk_below M.out.b H2.out) 2).trans rfl
  have b3 := (blk_cell (blk_below M.out.b H2.out) 3).trans rfl
  have b4 := (blk_cell (blk_below M.out.b H2.out) 4).trans rfl
  go_wp2_with fail
  refine (C2.out _ H2.out).mono ?_
  rintro e' w4 ⟨rfl, hb⟩
  have H3 := Hid.mk (below_then H2.out hb)
  clear hb b0 b1 b2 b3 b4 
  have b0 := (blk_cell (blk_below M.out.b H3.out) 0).trans rfl
  have b1 := (blk_cell (blk_below M.out.b H3.out) 1).trans rfl
  have b2 := (blk_cell (blk_below M.out.b H3.out) 2).trans rfl
  have b3 := (blk_cell (blk_below M.out.b H3.out) 3).trans rfl
  have b4 := (blk_cell (blk_below M.out.b H3.out) 4).trans rfl
  go_wp2_with fail
  refine hn.out _ _ ?_ H3.out
  rfl
theorem call40B {t : List UInt8} {g N c a i o : Nat} {w wr : World} {st : List Ent} {out : List Po} {Q : Exit → Act → World → Prop} {v0 v3 ov sv wt v7 v8 v9 v10 v11 v12 v13 v14 v15 : Value} {r : List Value} (hr : r.length = 357) {A B : Code} (hT : Hid (Tq t N g w)) (hN5 : N ≤ 100000) (hi : i < N) (M : Hid (Mz g N c a w (i : Int) (o : Int) sv st ov out wr))  (hk : (tkT t i).k ≠ 25 ∧ (tkT t i).k ≠ 26 ∧ (tkT t i).k ≠ 27) (hn : Hid (∀ r' wx, r'.length = 357 → Below wr.heap.size wr wx → Code.wp Tryd.prog B Q (Fz w v0 v3 ov sv wt v7 v8 v9 v10 v11 v12 v13 v14 v15 r') wx)) :
    Code.wp Tryd.prog (.seq (sL xCL) (.cond (.tmp 159) A B)) Q (Fz w v0 v3 ov sv wt v7 v8 v9 v10 v11 v12 v13 v14 v15 r) wr := by
  have C0 : Hid (∀ W, Below wr.heap.size wr W → Calls Tryd.prog 40 #[.agg #[.slice (some ⟨g, 0, none⟩) N c, .int .i64 (i : Int), .int .i64 (o : Int), .int .i64 0, .int .i64 (a : Int)], .string ⟨#[109, 105, 110]⟩] W fun e' w' => e' = .returned (.bool false) ∧ Below W.heap.size W w') := fun W hb => by
    have := isWordS t g N c i o 0 a (twAt 25) W (hT.out.below (below_then M.out.bel hb)) hi hN5
    rw [isW_k (tk_cl t i) (by omega) (by omega), show decide ((tkT t i).k = 25) = false by simp; omega] at this
    exact this
  have C1 : Hid (∀ W, Below wr.heap.size wr W → Calls Tryd.prog 40 #[.agg #[.slice (some ⟨g, 0, none⟩) N c, .int .i64 (i : Int), .int .i64 (o : Int), .int .i64 0, .int .i64 (a : Int)], .string ⟨#[109, 97, 120]⟩] W fun e' w' => e' = .returned (.bool false) ∧ Below W.heap.size W w') := fun W hb => by
    have := isWordS t g N c i o 0 a (twAt 26) W (hT.out.below (below_then M.out.bel hb)) hi hN5
    rw [isW_k (tk_cl t i) (by omega) (by omega), show decide ((tkT t i).k = 26) = false by simp; omega] at this
    exact this
  have C2 : Hid (∀ W, Below wr.heap.size wr W → Calls Tryd.prog 40 #[.agg #[.slice (some ⟨g, 0, none⟩) N c, .int .i64 (i : Int), .int .i64 (o : Int), .int .i64 0, .int .i64 (a : Int)], .string ⟨#[105, 102]⟩] W fun e' w' => e' = .returned (.bool false) ∧ Below W.heap.size W w') := fun W hb => by
    have := isWordS t g N c i o 0 a (twAt 27) W (hT.out.below (below_then M.out.bel hb)) hi hN5
    rw [isW_k (tk_cl t i) (by omega) (by omega), show decide ((tkT t i).k = 27) = false by simp; omega] at this
    exact this
  have H0 : Hid (Below wr.heap.size wr wr) := Below.refl _ _
  have b0 := (blk_cell M.out.b 0).trans rfl
  have b1 := (blk_cell M.out.b 1).trans rfl
  have b2 := (blk_cell M.out.b 2).trans rfl
  have b3 := (blk_cell M.out.b 3).trans rfl
  have b4 := (blk_cell M.out.b 4).trans rfl
  clear hk
  revert r
  refine @elim_out 357 _ ?_
  iterate 357 (intro _)
  show Code.wp _ _ _ _ _
  conv => arg 2; dsimp only [xCL, xPO, xNL, xW, xX, xL, x0, Tryd.f27, Option.getD, sR, sL, cT, cF, bk, lpo]
  conv => arg 4; dsimp only [Fz]
  go_wp2_with fail
  refine (C0.out _ H0.out).mono ?_
  rintro e' w2 ⟨rfl, hb⟩
  have H1 := Hid.mk (below_then H0.out hb)
  clear hb b0 b1 b2 b3 b4 
  have b0 := (blk_cell (blk_below M.out.b H1.out) 0).trans rfl
  have b1 := (blk_cell (blk_below M.out.b H1.out) 1).trans rfl
  have b2 := (blk_cell (blk_below M.out.b H1.out) 2).trans rfl
  have b3 := (blk_cell (blk_below M.out.b H1.out) 3).trans rfl
  have b4 := (blk_cell (blk_below M.out.b H1.out) 4).trans rfl
  go_wp2_with fail
  refine (C1.out _ H1.out).mono ?_
  rintro e' w3 ⟨rfl, hb⟩
  have H2 := Hid.mk (below_then H1.out hb)
  clear hb b0 b1 b2 b3 b4 
  have b0 := (blk_cell (blk_below M.out.b H2.out) 0).trans rfl
  have b1 := (blk_cell (blk_below M.out.b H2.out) 1).trans rfl
  have b2 := (blk_cell (blk_below M.out.b H2.out) 2).trans rfl
  have b3 := (blk_cell (blk_below M.out.b H2.out) 3).trans rfl
  have b4 := (blk_cell (blk_below M.out.b H2.out) 4).trans rfl
  go_wp2_with fail
  refine (C2.out _ H2.out).mono ?_
  rintro e' w4 ⟨rfl, hb⟩
  have H3 := Hid.mk (below_then H2.out hb)
  clear hb b0 b1 b2 b3 b4 
  have b0 := (blk_cell (blk_below M.out.b H3.out) 0).trans rfl
  have b1 := (blk_cell (blk_below M.out.b H3.out) 1).trans rfl
  have b2 := (blk_cell (blk_below M.out.b H3.out) 2).trans rfl
  have b3 := (blk_cell (blk_below M.out.b H3.out) 3).trans rfl
  have b4 := (blk_cell (blk_below M.out.b H3.out) 4).trans rfl
  go_wp2_with fail
  refine hn.out _ _ ?_ H3.out
  rfl
theorem par51B {t : List UInt8} {g N c a i o : Nat} {w wr : World} {st : List Ent} {out : List Po} {Q : Exit → Act → World → Prop} {v0 v3 ov sv wt v7 v8 v9 v10 v11 v12 v13 v14 v15 : Value} {r : List Value} (hr : r.length = 357) {A B : Code} (hT : Hid (Tq t N g w)) (hN5 : N ≤ 100000) (hi : i < N) (M : Hid (Mz g N c a w (i : Int) (o : Int) sv st ov out wr))  (hk : (tkT t i).k = 5) (hn : Hid (∀ r' wx, r'.length = 357 → Below wr.heap.size wr wx → Code.wp Tryd.prog B Q (Fz w v0 v3 ov sv wt v7 v8 v9 v10 v11 v12 v13 v14 v15 r') wx)) :
    Code.wp Tryd.prog (.seq (sL (sL (sR (sR (sR (sR (sR (sR xCA)))))))) (.cond (.tmp 186) A B)) Q (Fz w v0 v3 ov sv wt v7 v8 v9 v10 v11 v12 v13 v14 v15 r) wr := by
  have C0 : Hid (∀ W, Below wr.heap.size wr W → Calls Tryd.prog 40 #[.agg #[.slice (some ⟨g, 0, none⟩) N c, .int .i64 (i : Int), .int .i64 (o : Int), .int .i64 0, .int .i64 (a : Int)], .string ⟨#[40]⟩] W fun e' w' => e' = .returned (.bool true) ∧ Below W.heap.size W w') := fun W hb => by
    have := isWordS t g N c i o 0 a (twAt 5) W (hT.out.below (below_then M.out.bel hb)) hi hN5
    rw [isW_k (tk_cl t i) (by omega) (by omega), show decide ((tkT t i).k = 5) = true by simp; omega] at this
    exact this
  have H0 : Hid (Below wr.heap.size wr wr) := Below.refl _ _
  have b0 := (blk_cell M.out.b 0).trans rfl
  have b1 := (blk_cell M.out.b 1).trans rfl
  have b2 := (blk_cell M.out.b 2).trans rfl
  have b3 := (blk_cell M.out.b 3).trans rfl
  have b4 := (blk_cell M.out.b 4).trans rfl
  clear hk
  revert r
  refine @elim_out 357 _ ?_
  iterate 357 (intro _)
  show Code.wp _ _ _ _ _
  conv => arg 2; dsimp only [xCA, xCL, xPO, xNL, xW, xX, xL, x0, Tryd.f27, Option.getD, sR, sL, cT, cF, bk, lpo]
  conv => arg 4; dsimp only [Fz]
  go_wp2_with fail
  refine (C0.out _ H0.out).mono ?_
  rintro e' w2 ⟨rfl, hb⟩
  have H1 := Hid.mk (below_then H0.out hb)
  clear hb b0 b1 b2 b3 b4 
  have b0 := (blk_cell (blk_below M.out.b H1.out) 0).trans rfl
  have b1 := (blk_cell (blk_below M.out.b H1.out) 1).trans rfl
  have b2 := (blk_cell (blk_below M.out.b H1.out) 2).trans rfl
  have b3 := (blk_cell (blk_below M.out.b H1.out) 3).trans rfl
  have b4 := (blk_cell (blk_below M.out.b H1.out) 4).trans rfl
  go_wp2_with fail
  refine hn.out _ _ ?_ H1.out
  rfl
theorem par51A {t : List UInt8} {g N c a i o : Nat} {w wr : World} {st : List Ent} {out : List Po} {Q : Exit → Act → World → Prop} {v0 v3 ov sv wt v7 v8 v9 v10 v11 v12 v13 v14 v15 : Value} {r : List Value} (hr : r.length = 357) {A B : Code} (hT : Hid (Tq t N g w)) (hN5 : N ≤ 100000) (hi : i < N) (M : Hid (Mz g N c a w (i : Int) (o : Int) sv st ov out wr))  (hk : (tkT t i).k ≠ 5) (hn : Hid (∀ r' wx, r'.length = 357 → Below wr.heap.size wr wx → Code.wp Tryd.prog A Q (Fz w v0 v3 ov sv wt v7 v8 v9 v10 v11 v12 v13 v14 v15 r') wx)) :
    Code.wp Tryd.prog (.seq (sL (sL (sR (sR (sR (sR (sR (sR xCA)))))))) (.cond (.tmp 186) A B)) Q (Fz w v0 v3 ov sv wt v7 v8 v9 v10 v11 v12 v13 v14 v15 r) wr := by
  have C0 : Hid (∀ W, Below wr.heap.size wr W → Calls Tryd.prog 40 #[.agg #[.slice (some ⟨g, 0, none⟩) N c, .int .i64 (i : Int), .int .i64 (o : Int), .int .i64 0, .int .i64 (a : Int)], .string ⟨#[40]⟩] W fun e' w' => e' = .returned (.bool false) ∧ Below W.heap.size W w') := fun W hb => by
    have := isWordS t g N c i o 0 a (twAt 5) W (hT.out.below (below_then M.out.bel hb)) hi hN5
    rw [isW_k (tk_cl t i) (by omega) (by omega), show decide ((tkT t i).k = 5) = false by simp; omega] at this
    exact this
  have H0 : Hid (Below wr.heap.size wr wr) := Below.refl _ _
  have b0 := (blk_cell M.out.b 0).trans rfl
  have b1 := (blk_cell M.out.b 1).trans rfl
  have b2 := (blk_cell M.out.b 2).trans rfl
  have b3 := (blk_cell M.out.b 3).trans rfl
  have b4 := (blk_cell M.out.b 4).trans rfl
  clear hk
  revert r
  refine @elim_out 357 _ ?_
  iterate 357 (intro _)
  show Code.wp _ _ _ _ _
  conv => arg 2; dsimp only [xCA, xCL, xPO, xNL, xW, xX, xL, x0, Tryd.f27, Option.getD, sR, sL, cT, cF, bk, lpo]
  conv => arg 4; dsimp only [Fz]
  go_wp2_with fail
  refine (C0.out _ H0.out).mono ?_
  rintro e' w2 ⟨rfl, hb⟩
  have H1 := Hid.mk (below_then H0.out hb)
  clear hb b0 b1 b2 b3 b4 
  have b0 := (blk_cell (blk_below M.out.b H1.out) 0).trans rfl
  have b1 := (blk_cell (blk_below M.out.b H1.out) 1).trans rfl
  have b2 := (blk_cell (blk_below M.out.b H1.out) 2).trans rfl
  have b3 := (blk_cell (blk_below M.out.b H1.out) 3).trans rfl
  have b4 := (blk_cell (blk_below M.out.b H1.out) 4).trans rfl
  go_wp2_with fail
  refine hn.out _ _ ?_ H1.out
  rfl
end Go.Proofs.YtfoigigbggickaaDoor.Par
