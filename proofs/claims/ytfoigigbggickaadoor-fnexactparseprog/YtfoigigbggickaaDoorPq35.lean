import Derived.Test.YtfoigigbggickaaDoorPq27
namespace Go.Proofs.YtfoigigbggickaaDoor.Par
open Go Go.RowKit Go.Proofs.YtfoigigbggickaaDoor.Mem Go.Proofs.YtfoigigbggickaaDoor.Syn Go.Proofs.YtfoigigbggickaaDoor.Parse
set_option linter.unusedVariables false
set_option linter.unusedSimpArgs false
set_option maxHeartbeats 6400000
set_option maxRecDepth 1000000
attribute [local go_sem ↓] Go.wp_at_zero Go.wp_at_succ
theorem com78B {t : List UInt8} {g N c a i o : Nat} {w wr : World} {out : List Po} {Q : Exit → Act → World → Prop} {v0 v3 ov wt v7 v8 v9 v10 v11 v12 v13 v15 : Value} {r : List Value} (hr : r.length = 357) {A B : Code} {pre rr : List Ent} {e : Ent} {g2 n sc k : Nat} (hT : Hid (Tq t N g w)) (hN5 : N ≤ 100000) (hi : i < N) (M : Hid (Mz g N c a w (i : Int) (o : Int) (.slice (some ⟨g2, 0, none⟩) n sc) (pre ++ e :: rr) ov out wr)) (hk0 : rr.length = k) (hn0 : (pre ++ e :: rr).length = n) (hk : (tkT t i).k ≠ 4) (hn : Hid (∀ r' wx, r'.length = 357 → Below wr.heap.size wr wx → Code.wp Tryd.prog B Q (Fz w v0 v3 ov (.slice (some ⟨g2, 0, none⟩) n sc) wt v7 v8 v9 v10 v11 v12 v13 (.int .i64 (k : Int)) v15 r') wx)) :
    Code.wp Tryd.prog (.seq (sL xNC) (.cond (.tmp 304) A B)) Q (Fz w v0 v3 ov (.slice (some ⟨g2, 0, none⟩) n sc) wt v7 v8 v9 v10 v11 v12 v13 (.int .i64 (k : Int)) v15 r) wr := by
  have C0 : Hid (∀ W, Below wr.heap.size wr W → Calls Tryd.prog 40 #[.agg #[.slice (some ⟨g, 0, none⟩) N c, .int .i64 (i : Int), .int .i64 (o : Int), .int .i64 0, .int .i64 (a : Int)], .string ⟨#[44]⟩] W fun e' w' => e' = .returned (.bool false) ∧ Below W.heap.size W w') := fun W hb => by
    have := isWordS t g N c i o 0 a (twAt 4) W (hT.out.below (below_then M.out.bel hb)) hi hN5
    rw [isW_k (tk_cl t i) (by omega) (by omega), show decide ((tkT t i).k = 4) = false by simp; omega] at this
    exact this
  obtain ⟨g3, hg3, -, hc, hB2, hgl⟩ := M.out.e.blk (by simp)
  cases hg3
  obtain ⟨y0, y1, y2⟩ := OwnE.at M.out.e
  rw [hk0] at y0 y1 y2
  have k1 : (0 : Int) ≤ (k : Int) := by omega
  have k2 : (k : Int) < (n : Int) := by simp at hn0; omega
  have H0 : Hid (Below wr.heap.size wr wr) := Below.refl _ _
  have b0 := (blk_cell M.out.b 0).trans rfl
  have b1 := (blk_cell M.out.b 1).trans rfl
  have b2 := (blk_cell M.out.b 2).trans rfl
  have b3 := (blk_cell M.out.b 3).trans rfl
  have b4 := (blk_cell M.out.b 4).trans rfl
  clear hk
  revert r
  refine @elim_out 357 _ ?_
  iterate 357 (intro _)
  show Code.wp _ _ _ _ _
  conv => arg 2; dsimp only [xNC, xNB, xN, xX, xL, x0, Tryd.f27, Option.getD, sR, sL, cT, cF, bk, lpo]
  conv => arg 4; dsimp only [Fz]
  go_wp2_with fail
  refine (C0.out _ H0.out).mono ?_
  rintro e' w2 ⟨rfl, hb⟩
  have H1 := Hid.mk (below_then H0.out hb)
  clear hb b0 b1 b2 b3 b4 y0 y1 y2 hgl
  have b0 := (blk_cell (blk_below M.out.b H1.out) 0).trans rfl
  have b1 := (blk_cell (blk_below M.out.b H1.out) 1).trans rfl
  have b2 := (blk_cell (blk_below M.out.b H1.out) 2).trans rfl
  have b3 := (blk_cell (blk_below M.out.b H1.out) 3).trans rfl
  have b4 := (blk_cell (blk_below M.out.b H1.out) 4).trans rfl
  obtain ⟨y0, y1, y2⟩ := OwnE.at (M.out.e.below H1.out)
  rw [hk0] at y0 y1 y2
  have hgl := lt_of_cell y0
  go_wp2_with fail
  refine hn.out _ _ ?_ H1.out
  rfl
theorem com78C {t : List UInt8} {g N c a i o : Nat} {w wr : World} {out : List Po} {Q : Exit → Act → World → Prop} {v0 v3 ov wt v7 v8 v9 v10 v11 v12 v13 v15 : Value} {r : List Value} (hr : r.length = 357) {A B : Code} {pre rr : List Ent} {e : Ent} {g2 n sc k : Nat} (hT : Hid (Tq t N g w)) (hN5 : N ≤ 100000) (hi : i < N) (M : Hid (Mz g N c a w (i : Int) (o : Int) (.slice (some ⟨g2, 0, none⟩) n sc) (pre ++ e :: rr) ov out wr)) (hk0 : rr.length = k) (hn0 : (pre ++ e :: rr).length = n) (hk : (tkT t i).k = 4 ∧ e.l = 0) (hn : Hid (∀ r' wx, r'.length = 357 → Below wr.heap.size wr wx → Code.wp Tryd.prog B Q (Fz w v0 v3 ov (.slice (some ⟨g2, 0, none⟩) n sc) wt v7 v8 v9 v10 v11 v12 v13 (.int .i64 (k : Int)) v15 r') wx)) :
    Code.wp Tryd.prog (.seq (sL xNC) (.cond (.tmp 304) A B)) Q (Fz w v0 v3 ov (.slice (some ⟨g2, 0, none⟩) n sc) wt v7 v8 v9 v10 v11 v12 v13 (.int .i64 (k : Int)) v15 r) wr := by
  have C0 : Hid (∀ W, Below wr.heap.size wr W → Calls Tryd.prog 40 #[.agg #[.slice (some ⟨g, 0, none⟩) N c, .int .i64 (i : Int), .int .i64 (o : Int), .int .i64 0, .int .i64 (a : Int)], .string ⟨#[44]⟩] W fun e' w' => e' = .returned (.bool true) ∧ Below W.heap.size W w') := fun W hb => by
    have := isWordS t g N c i o 0 a (twAt 4) W (hT.out.below (below_then M.out.bel hb)) hi hN5
    rw [isW_k (tk_cl t i) (by omega) (by omega), show decide ((tkT t i).k = 4) = true by simp; omega] at this
    exact this
  obtain ⟨g3, hg3, -, hc, hB2, hgl⟩ := M.out.e.blk (by simp)
  cases hg3
  obtain ⟨y0, y1, y2⟩ := OwnE.at M.out.e
  rw [hk0] at y0 y1 y2
  have k1 : (0 : Int) ≤ (k : Int) := by omega
  have k2 : (k : Int) < (n : Int) := by simp at hn0; omega
  have h1 : decide ((0 : Int) < (e.l : Int)) = false := by simp; omega
  have h2 : ¬ (0 : Int) < (e.l : Int) := by omega
  have H0 : Hid (Below wr.heap.size wr wr) := Below.refl _ _
  have b0 := (blk_cell M.out.b 0).trans rfl
  have b1 := (blk_cell M.out.b 1).trans rfl
  have b2 := (blk_cell M.out.b 2).trans rfl
  have b3 := (blk_cell M.out.b 3).trans rfl
  have b4 := (blk_cell M.out.b 4).trans rfl
  clear hk
  revert r
  refine @elim_out 357 _ ?_
  iterate 357 (intro _)
  show Code.wp _ _ _ _ _
  conv => arg 2; dsimp only [xNC, xNB, xN, xX, xL, x0, Tryd.f27, Option.getD, sR, sL, cT, cF, bk, lpo]
  conv => arg 4; dsimp only [Fz]
  go_wp2_with fail
  refine (C0.out _ H0.out).mono ?_
  rintro e' w2 ⟨rfl, hb⟩
  have H1 := Hid.mk (below_then H0.out hb)
  clear hb b0 b1 b2 b3 b4 y0 y1 y2 hgl
  have b0 := (blk_cell (blk_below M.out.b H1.out) 0).trans rfl
  have b1 := (blk_cell (blk_below M.out.b H1.out) 1).trans rfl
  have b2 := (blk_cell (blk_below M.out.b H1.out) 2).trans rfl
  have b3 := (blk_cell (blk_below M.out.b H1.out) 3).trans rfl
  have b4 := (blk_cell (blk_below M.out.b H1.out) 4).trans rfl
  obtain ⟨y0, y1, y2⟩ := OwnE.at (M.out.e.below H1.out)
  rw [hk0] at y0 y1 y2
  have hgl := lt_of_cell y0
  go_wp2_with fail
  refine hn.out _ _ ?_ H1.out
  rfl
theorem com78A {t : List UInt8} {g N c a i o : Nat} {w wr : World} {out : List Po} {Q : Exit → Act → World → Prop} {v0 v3 ov wt v7 v8 v9 v10 v11 v12 v13 v15 : Value} {r : List Value} (hr : r.length = 357) {A B : Code} {pre rr : List Ent} {e : Ent} {g2 n sc k : Nat} (hT : Hid (Tq t N g w)) (hN5 : N ≤ 100000) (hi : i < N) (M : Hid (Mz g N c a w (i : Int) (o : Int) (.slice (some ⟨g2, 0, none⟩) n sc) (pre ++ e :: rr) ov out wr)) (hk0 : rr.length = k) (hn0 : (pre ++ e :: rr).length = n) (hk : (tkT t i).k = 4 ∧ 0 < e.l) (hn : Hid (∀ r' wx, r'.length = 357 → Below wr.heap.size wr wx → Code.wp Tryd.prog A Q (Fz w v0 v3 ov (.slice (some ⟨g2, 0, none⟩) n sc) wt v7 v8 v9 v10 v11 v12 v13 (.int .i64 (k : Int)) v15 r') wx)) :
    Code.wp Tryd.prog (.seq (sL xNC) (.cond (.tmp 304) A B)) Q (Fz w v0 v3 ov (.slice (some ⟨g2, 0, none⟩) n sc) wt v7 v8 v9 v10 v11 v12 v13 (.int .i64 (k : Int)) v15 r) wr := by
  have C0 : Hid (∀ W, Below wr.heap.size wr W → Calls Tryd.prog 40 #[.agg #[.slice (some ⟨g, 0, none⟩) N c, .int .i64 (i : Int), .int .i64 (o : Int), .int .i64 0, .int .i64 (a : Int)], .string ⟨#[44]⟩] W fun e' w' => e' = .returned (.bool true) ∧ Below W.heap.size W w') := fun W hb => by
    have := isWordS t g N c i o 0 a (twAt 4) W (hT.out.below (below_then M.out.bel hb)) hi hN5
    rw [isW_k (tk_cl t i) (by omega) (by omega), show decide ((tkT t i).k = 4) = true by simp; omega] at this
    exact this
  obtain ⟨g3, hg3, -, hc, hB2, hgl⟩ := M.out.e.blk (by simp)
  cases hg3
  obtain ⟨y0, y1, y2⟩ := OwnE.at M.out.e
  rw [hk0] at y0 y1 y2
  have k1 : (0 : Int) ≤ (k : Int) := by omega
  have k2 : (k : Int) < (n : Int) := by simp at hn0; omega
  have h1 : (0 : Int) < (e.l : Int) := by omega
  have H0 : Hid (Below wr.heap.size wr wr) := Below.refl _ _
  have b0 := (blk_cell M.out.b 0).trans rfl
  have b1 := (blk_cell M.out.b 1).trans rfl
  have b2 := (blk_cell M.out.b 2).trans rfl
  have b3 := (blk_cell M.out.b 3).trans rfl
  have b4 := (blk_cell M.out.b 4).trans rfl
  clear hk
  revert r
  refine @elim_out 357 _ ?_
  iterate 357 (intro _)
  show Code.wp _ _ _ _ _
  conv => arg 2; dsimp only [xNC, xNB, xN, xX, xL, x0, Tryd.f27, Option.getD, sR, sL, cT, cF, bk, lpo]
  conv => arg 4; dsimp only [Fz]
  go_wp2_with fail
  refine (C0.out _ H0.out).mono ?_
  rintro e' w2 ⟨rfl, hb⟩
  have H1 := Hid.mk (below_then H0.out hb)
  clear hb b0 b1 b2 b3 b4 y0 y1 y2 hgl
  have b0 := (blk_cell (blk_below M.out.b H1.out) 0).trans rfl
  have b1 := (blk_cell (blk_below M.out.b H1.out) 1).trans rfl
  have b2 := (blk_cell (blk_below M.out.b H1.out) 2).trans rfl
  have b3 := (blk_cell (blk_below M.out.b H1.out) 3).trans rfl
  have b4 := (blk_cell (blk_below M.out.b H1.out) 4).trans rfl
  obtain ⟨y0, y1, y2⟩ := OwnE.at (M.out.e.below H1.out)
  rw [hk0] at y0 y1 y2
  have hgl := lt_of_cell y0
  go_wp2_with fail
  refine hn.out _ _ ?_ H1.out
  rfl
theorem clo83B {t : List UInt8} {g N c a i o : Nat} {w wr : World} {out : List Po} {Q : Exit → Act → World → Prop} {v0 v3 ov wt v7 v8 v9 v10 v11 v12 v13 v15 : Value} {r : List Value} (hr : r.length = 357) {A B : Code} {pre rr : List Ent} {e : Ent} {g2 n sc k : Nat} (hT : Hid (Tq t N g w)) (hN5 : N ≤ 100000) (hi : i < N) (M : Hid (Mz g N c a w (i : Int) (o : Int) (.slice (some ⟨g2, 0, none⟩) n sc) (pre ++ e :: rr) ov out wr)) (hk0 : rr.length = k) (hn0 : (pre ++ e :: rr).length = n) (hk : (tkT t i).k ≠ 6) (hn : Hid (∀ r' wx, r'.length = 357 → Below wr.heap.size wr wx → Code.wp Tryd.prog B Q (Fz w v0 v3 ov (.slice (some ⟨g2, 0, none⟩) n sc) wt v7 v8 v9 v10 v11 v12 v13 (.int .i64 (k : Int)) v15 r') wx)) :
    Code.wp Tryd.prog (.seq (sL xPC) (.cond (.tmp 334) A B)) Q (Fz w v0 v3 ov (.slice (some ⟨g2, 0, none⟩) n sc) wt v7 v8 v9 v10 v11 v12 v13 (.int .i64 (k : Int)) v15 r) wr := by
  have C0 : Hid (∀ W, Below wr.heap.size wr W → Calls Tryd.prog 40 #[.agg #[.slice (some ⟨g, 0, none⟩) N c, .int .i64 (i : Int), .int .i64 (o : Int), .int .i64 0, .int .i64 (a : Int)], .string ⟨#[41]⟩] W fun e' w' => e' = .returned (.bool false) ∧ Below W.heap.size W w') := fun W hb => by
    have := isWordS t g N c i o 0 a (twAt 6) W (hT.out.below (below_then M.out.bel hb)) hi hN5
    rw [isW_k (tk_cl t i) (by omega) (by omega), show decide ((tkT t i).k = 6) = false by simp; omega] at this
    exact this
  obtain ⟨g3, hg3, -, hc, hB2, hgl⟩ := M.out.e.blk (by simp)
  cases hg3
  obtain ⟨y0, y1, y2⟩ := OwnE.at M.out.e
  rw [hk0] at y0 y1 y2
  have k1 : (0 : Int) ≤ (k : Int) := by omega
  have k2 : (k : Int) < (n : Int) := by simp at hn0; omega
  have H0 : Hid (Below wr.heap.size wr wr) := Below.refl _ _
  have b0 := (blk_cell M.out.b 0).trans rfl
  have b1 := (blk_cell M.out.b 1).trans rfl
  have b2 := (blk_cell M.out.b 2).trans rfl
  have b3 := (blk_cell M.out.b 3).trans rfl
  have b4 := (blk_cell M.out.b 4).trans rfl
  clear hk
  revert r
  refine @elim_out 357 _ ?_
  iterate 357 (intro _)
  show Code.wp _ _ _ _ _
  conv => arg 2; dsimp only [xPC, xNC, xNB, xN, xX, xL, x0, Tryd.f27, Option.getD, sR, sL, cT, cF, bk, lpo]
  conv => arg 4; dsimp only [Fz]
  go_wp2_with fail
  refine (C0.out _ H0.out).mono ?_
  rintro e' w2 ⟨rfl, hb⟩
  have H1 := Hid.mk (below_then H0.out hb)
  clear hb b0 b1 b2 b3 b4 y0 y1 y2 hgl
  have b0 := (blk_cell (blk_below M.out.b H1.out) 0).trans rfl
  have b1 := (blk_cell (blk_below M.out.b H1.out) 1).trans rfl
  have b2 := (blk_cell (blk_below M.out.b H1.out) 2).trans rfl
  have b3 := (blk_cell (blk_below M.out.b H1.out) 3).trans rfl
  have b4 := (blk_cell (blk_below M.out.b H1.out) 4).trans rfl
  obtain ⟨y0, y1, y2⟩ := OwnE.at (M.out.e.below H1.out)
  rw [hk0] at y0 y1 y2
  have hgl := lt_of_cell y0
  go_wp2_with fail
  refine hn.out _ _ ?_ H1.out
  rfl
theorem clo83C {t : List UInt8} {g N c a i o : Nat} {w wr : World} {out : List Po} {Q : Exit → Act → World → Prop} {v0 v3 ov wt v7 v8 v9 v10 v11 v12 v13 v15 : Value} {r : List Value} (hr : r.length = 357) {A B : Code} {pre rr : List Ent} {e : Ent} {g2 n sc k : Nat} (hT : Hid (Tq t N g w)) (hN5 : N ≤ 100000) (hi : i < N) (M : Hid (Mz g N c a w (i : Int) (o : Int) (.slice (some ⟨g2, 0, none⟩) n sc) (pre ++ e :: rr) ov out wr)) (hk0 : rr.length = k) (hn0 : (pre ++ e :: rr).length = n) (hk : (tkT t i).k = 6 ∧ e.l ≠ 0) (hn : Hid (∀ r' wx, r'.length = 357 → Below wr.heap.size wr wx → Code.wp Tryd.prog B Q (Fz w v0 v3 ov (.slice (some ⟨g2, 0, none⟩) n sc) wt v7 v8 v9 v10 v11 v12 v13 (.int .i64 (k : Int)) v15 r') wx)) :
    Code.wp Tryd.prog (.seq (sL xPC) (.cond (.tmp 334) A B)) Q (Fz w v0 v3 ov (.slice (some ⟨g2, 0, none⟩) n sc) wt v7 v8 v9 v10 v11 v12 v13 (.int .i64 (k : Int)) v15 r) wr := by
  have C0 : Hid (∀ W, Below wr.heap.size wr W → Calls Tryd.prog 40 #[.agg #[.slice (some ⟨g, 0, none⟩) N c, .int .i64 (i : Int), .int .i64 (o : Int), .int .i64 0, .int .i64 (a : Int)], .string ⟨#[41]⟩] W fun e' w' => e' = .returned (.bool true) ∧ Below W.heap.size W w') := fun W hb => by
    have := isWordS t g N c i o 0 a (twAt 6) W (hT.out.below (below_then M.out.bel hb)) hi hN5
    rw [isW_k (tk_cl t i) (by omega) (by omega), show decide ((tkT t i).k = 6) = true by simp; omega] at this
    exact this
  obtain ⟨g3, hg3, -, hc, hB2, hgl⟩ := M.out.e.blk (by simp)
  cases hg3
  obtain ⟨y0, y1, y2⟩ := OwnE.at M.out.e
  rw [hk0] at y0 y1 y2
  have k1 : (0 : Int) ≤ (k : Int) := by omega
  have k2 : (k : Int) < (n : Int) := by simp at hn0; omega
  have h1 : ((e.l : Int) == 0) = false := by simp; omega
  have H0 : Hid (Below wr.heap.size wr wr) := Below.refl _ _
  have b0 := (blk_cell M.out.b 0).trans rfl
  have b1 := (blk_cell M.out.b 1).trans rfl
  have b2 := (blk_cell M.out.b 2).trans rfl
  have b3 := (blk_cell M.out.b 3).trans rfl
  have b4 := (blk_cell M.out.b 4).trans rfl
  clear hk
  revert r
  refine @elim_out 357 _ ?_
  iterate 357 (intro _)
  show Code.wp _ _ _ _ _
  conv => arg 2; dsimp only [xPC, xNC, xNB, xN, xX, xL, x0, Tryd.f27, Option.getD, sR, sL, cT, cF, bk, lpo]
  conv => arg 4; dsimp only [Fz]
  go_wp2_with fail
  refine (C0.out _ H0.out).mono ?_
  rintro e' w2 ⟨rfl, hb⟩
  have H1 := Hid.mk (below_then H0.out hb)
  clear hb b0 b1 b2 b3 b4 y0 y1 y2 hgl
  have b0 := (blk_cell (blk_below M.out.b H1.out) 0).trans rfl
  have b1 := (blk_cell (blk_below M.out.b H1.out) 1).trans rfl
  have b2 := (blk_cell (blk_below M.out.b H1.out) 2).trans rfl
  have b3 := (blk_cell (blk_below M.out.b H1.out) 3).trans rfl
  have b4 := (blk_cell (blk_below M.out.b H1.out) 4).trans rfl
  obtain ⟨y0, y1, y2⟩ := OwnE.at (M.out.e.below H1.out)
  rw [hk0] at y0 y1 y2
  have hgl := lt_of_cell y0
  go_wp2_with fail
  refine hn.out _ _ ?_ H1.out
  rfl
theorem clo83A {t : List UInt8} {g N c a i o : Nat} {w wr : World} {out : List Po} {Q : Exit → Act → World → Prop} {v0 v3 ov wt v7 v8 v9 v10 v11 v12 v13 v15 : Value} {r : List Value} (hr : r.length = 357) {A B : Code} {pre rr : List Ent} {e : Ent} {g2 n sc k : Nat} (hT : Hid (Tq t N g w)) (hN5 : N ≤ 100000) (hi : i < N) (M : Hid (Mz g N c a w (i : Int) (o : Int) (.slice (some ⟨g2, 0, none⟩) n sc) (pre ++ e :: rr) ov out wr)) (hk0 : rr.length = k) (hn0 : (pre ++ e :: rr).length = n) (hk : (tkT t i).k = 6 ∧ e.l = 0) (hn : Hid (∀ r' wx, r'.length = 357 → Below wr.heap.size wr wx → Code.wp Tryd.prog A Q (Fz w v0 v3 ov (.slice (some ⟨g2, 0, none⟩) n sc) wt v7 v8 v9 v10 v11 v12 v13 (.int .i64 (k : Int)) v15 r') wx)) :
    Code.wp Tryd.prog (.seq (sL xPC) (.cond (.tmp 334) A B)) Q (Fz w v0 v3 ov (.slice (some ⟨g2, 0, none⟩) n sc) wt v7 v8 v9 v10 v11 v12 v13 (.int .i64 (k : Int)) v15 r) wr := by
  have C0 : Hid (∀ W, Below wr.heap.size wr W → Calls Tryd.prog 40 #[.agg #[.slice (some ⟨g, 0, none⟩) N c, .int .i64 (i : Int), .int .i64 (o : Int), .int .i64 0, .int .i64 (a : Int)], .string ⟨#[41]⟩] W fun e' w' => e' = .returned (.bool true) ∧ Below W.heap.size W w') := fun W hb => by
    have := isWordS t g N c i o 0 a (twAt 6) W (hT.out.below (below_then M.out.bel hb)) hi hN5
    rw [isW_k (tk_cl t i) (by omega) (by omega), show decide ((tkT t i).k = 6) = true by simp; omega] at this
    exact this
  obtain ⟨g3, hg3, -, hc, hB2, hgl⟩ := M.out.e.blk (by simp)
  cases hg3
  obtain ⟨y0, y1, y2⟩ := OwnE.at M.out.e
  rw [hk0] at y0 y1 y2
  have k1 : (0 : Int) ≤ (k : Int) := by omega
  have k2 : (k : Int) < (n : Int) := by simp at hn0; omega
  have h1 : ((e.l : Int) == 0) = true := by simp; omega
  have H0 : Hid (Below wr.heap.size wr wr) := Below.refl _ _
  have b0 := (blk_cell M.out.b 0).trans rfl
  have b1 := (blk_cell M.out.b 1).trans rfl
  have b2 := (blk_cell M.out.b 2).trans rfl
  have b3 := (blk_cell M.out.b 3).trans rfl
  have b4 := (blk_cell M.out.b 4).trans rfl
  clear hk
  revert r
  refine @elim_out 357 _ ?_
  iterate 357 (intro _)
  show Code.wp _ _ _ _ _
  conv => arg 2; dsimp only [xPC, xNC, xNB, xN, xX, xL, x0, Tryd.f27, Option.getD, sR, sL, cT, cF, bk, lpo]
  conv => arg 4; dsimp only [Fz]
  go_wp2_with fail
  refine (C0.out _ H0.out).mono ?_
  rintro e' w2 ⟨rfl, hb⟩
  have H1 := Hid.mk (below_then H0.out hb)
  clear hb b0 b1 b2 b3 b4 y0 y1 y2 hgl
  have b0 := (blk_cell (blk_below M.out.b H1.out) 0).trans rfl
  have b1 := (blk_cell (blk_below M.out.b H1.out) 1).trans rfl
  have b2 := (blk_cell (blk_below M.out.b H1.out) 2).trans rfl
  have b3 := (blk_cell (blk_below M.out.b H1.out) 3).trans rfl
  have b4 := (blk_cell (blk_below M.out.b H1.out) 4).trans rfl
  obtain ⟨y0, y1, y2⟩ := OwnE.at (M.out.e.below H1.out)
  rw [hk0] at y0 y1 y2
  have hgl := lt_of_cell y0
  go_wp2_with fail
  refine hn.out _ _ ?_ H1.out
  rfl
end Go.Proofs.YtfoigigbggickaaDoor.Par
