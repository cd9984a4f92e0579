import Derived.Test.YtfoigigbggickaaDoorPq27
namespace Go.Proofs.YtfoigigbggickaaDoor.Par
open Go Go.RowKit Go.Proofs.YtfoigigbggickaaDoor.Mem Go.Proofs.YtfoigigbggickaaDoor.Syn Go.Proofs.YtfoigigbggickaaDoor.Parse
set_option linter.unusedVariables false
set_option linter.unusedSimpArgs false
set_option maxHeartbeats 6400000
set_option maxRecDepth 1000000
attribute [local go_sem ↓] Go.wp_at_zero Go.wp_at_succ
theorem fail7 {t : List UInt8} {g N c a i o : Nat} {w wr : World} {R : Rs (List Po × Nat × Nat)} {m : Nat} {st : List Ent} {out : List Po} {Q : Exit → Act → World → Prop} {v0 v3 ov sv wt v7 v8 v9 v10 v11 v12 v13 v14 v15 : Value} {r : List Value} (hr : r.length = 357) (hT : Tq t N g w) (hN5 : N ≤ 100000) (hi : i < N) (ho : o ≤ 2000) (hR : R = .bad (fcode 4 (tkT t i)) (tkT t i).at') (M : Hid (Mz g N c a w (i : Int) (o : Int) sv st ov out wr)) (hq : Hid (∀ a' wx, RQ t g N c a w R m .ret a' wx → Q .ret a' wx)) :
    Code.wp Tryd.prog (cT (sR (sL (sR xX)))) Q (Fz w v0 v3 ov sv wt v7 v8 v9 v10 v11 v12 v13 v14 v15 r) wr := by
  have CF := Hid.mk (failS t g N c i o 0 a 4 wr (hT.below M.out.bel) hi hN5)
  unfold parV at CF
  have HT := Hid.mk hT
  have HR := Hid.mk hR
  clear hT hR
  have b0 := (blk_cell M.out.b 0).trans rfl
  have b1 := (blk_cell M.out.b 1).trans rfl
  have b2 := (blk_cell M.out.b 2).trans rfl
  have b3 := (blk_cell M.out.b 3).trans rfl
  have b4 := (blk_cell M.out.b 4).trans rfl
  revert r
  refine @elim_out 357 _ ?_
  iterate 357 (intro _)
  show Code.wp _ _ _ _ _
  conv => arg 2; dsimp only [xX, xL, x0, Tryd.f27, Option.getD, sR, sL, cT, cF, bk, lpo]
  conv => arg 4; dsimp only [Fz]
  go_wp2_with fail
  refine CF.out.mono ?_
  rintro e' w3 ⟨rfl, hb⟩
  have M3 := Hid.mk (M.out.below hb)
  clear hb M CF b0 b1 b2 b3 b4
  have r0 := (blk_cell M3.out.r 0).trans rfl
  have r1 := (blk_cell M3.out.r 1).trans rfl
  have r2 := (blk_cell M3.out.r 2).trans rfl
  have r3 := (blk_cell M3.out.r 3).trans rfl
  have r4 := (blk_cell M3.out.r 4).trans rfl
  have fr0 := blk_unfrozen M3.out.r 0
  have fr1 := blk_unfrozen M3.out.r 1
  have fr2 := blk_unfrozen M3.out.r 2
  have fr3 := blk_unfrozen M3.out.r 3
  have fr4 := blk_unfrozen M3.out.r 4
  go_wp2
  refine hq.out _ _ ?_
  refine RQ.ret ?_
  refine bodyPost_ret (by simp [results, Tryd.results27, go_sem, r0, r1, r2, r3, r4]; try rfl) rfl ?_
  refine Ez.bad (L := out) HR.out (by decide) hi ho ?_ ?_
  · exact (((((M3.out.kr.set (Nat.le_succ _) 0 _).set (Nat.le_succ _) 1 _).set (Nat.le_succ _) 2 _).set (Nat.le_succ _) 3 _).set (Nat.le_succ _) 4 _).o
  · exact (((((M3.out.kr.set (Nat.le_succ _) 0 _).set (Nat.le_succ _) 1 _).set (Nat.le_succ _) 2 _).set (Nat.le_succ _) 3 _).set (Nat.le_succ _) 4 _).bel
theorem fail12 {t : List UInt8} {g N c a i o : Nat} {w wr : World} {R : Rs (List Po × Nat × Nat)} {m : Nat} {st : List Ent} {out : List Po} {Q : Exit → Act → World → Prop} {v0 v3 ov sv wt v7 v8 v9 v10 v11 v12 v13 v14 v15 : Value} {r : List Value} (hr : r.length = 357) (hT : Tq t N g w) (hN5 : N ≤ 100000) (hi : i < N) (ho : o ≤ 2000) (hR : R = .bad (fcode 6 (tkT t i)) (tkT t i).at') (M : Hid (Mz g N c a w (i : Int) (o : Int) sv st ov out wr)) (hq : Hid (∀ a' wx, RQ t g N c a w R m .ret a' wx → Q .ret a' wx)) :
    Code.wp Tryd.prog (cT (sR (sL xLF))) Q (Fz w v0 v3 ov sv wt v7 v8 v9 v10 v11 v12 v13 v14 v15 r) wr := by
  have CF := Hid.mk (failS t g N c i o 0 a 6 wr (hT.below M.out.bel) hi hN5)
  unfold parV at CF
  have HT := Hid.mk hT
  have HR := Hid.mk hR
  clear hT hR
  have b0 := (blk_cell M.out.b 0).trans rfl
  have b1 := (blk_cell M.out.b 1).trans rfl
  have b2 := (blk_cell M.out.b 2).trans rfl
  have b3 := (blk_cell M.out.b 3).trans rfl
  have b4 := (blk_cell M.out.b 4).trans rfl
  revert r
  refine @elim_out 357 _ ?_
  iterate 357 (intro _)
  show Code.wp _ _ _ _ _
  conv => arg 2; dsimp only [xLF, xW, xX, xL, x0, Tryd.f27, Option.getD, sR, sL, cT, cF, bk, lpo]
  conv => arg 4; dsimp only [Fz]
  go_wp2_with fail
  refine CF.out.mono ?_
  rintro e' w3 ⟨rfl, hb⟩
  have M3 := Hid.mk (M.out.below hb)
  clear hb M CF b0 b1 b2 b3 b4
  have r0 := (blk_cell M3.out.r 0).trans rfl
  have r1 := (blk_cell M3.out.r 1).trans rfl
  have r2 := (blk_cell M3.out.r 2).trans rfl
  have r3 := (blk_cell M3.out.r 3).trans rfl
  have r4 := (blk_cell M3.out.r 4).trans rfl
  have fr0 := blk_unfrozen M3.out.r 0
  have fr1 := blk_unfrozen M3.out.r 1
  have fr2 := blk_unfrozen M3.out.r 2
  have fr3 := blk_unfrozen M3.out.r 3
  have fr4 := blk_unfrozen M3.out.r 4
  go_wp2
  refine hq.out _ _ ?_
  refine RQ.ret ?_
  refine bodyPost_ret (by simp [results, Tryd.results27, go_sem, r0, r1, r2, r3, r4]; try rfl) rfl ?_
  refine Ez.bad (L := out) HR.out (by decide) hi ho ?_ ?_
  · exact (((((M3.out.kr.set (Nat.le_succ _) 0 _).set (Nat.le_succ _) 1 _).set (Nat.le_succ _) 2 _).set (Nat.le_succ _) 3 _).set (Nat.le_succ _) 4 _).o
  · exact (((((M3.out.kr.set (Nat.le_succ _) 0 _).set (Nat.le_succ _) 1 _).set (Nat.le_succ _) 2 _).set (Nat.le_succ _) 3 _).set (Nat.le_succ _) 4 _).bel
theorem fail26 {t : List UInt8} {g N c a i o : Nat} {w wr : World} {R : Rs (List Po × Nat × Nat)} {m : Nat} {st : List Ent} {out : List Po} {Q : Exit → Act → World → Prop} {v0 v3 ov sv wt v7 v8 v9 v10 v11 v12 v13 v14 v15 : Value} {r : List Value} (hr : r.length = 357) (hT : Tq t N g w) (hN5 : N ≤ 100000) (hi : i < N) (ho : o ≤ 2000) (hR : R = .bad (fcode 6 (tkT t i)) (tkT t i).at') (M : Hid (Mz g N c a w (i : Int) (o : Int) sv st ov out wr)) (hq : Hid (∀ a' wx, RQ t g N c a w R m .ret a' wx → Q .ret a' wx)) :
    Code.wp Tryd.prog (cT (sR (sL xU))) Q (Fz w v0 v3 ov sv wt v7 v8 v9 v10 v11 v12 v13 v14 v15 r) wr := by
  have CF := Hid.mk (failS t g N c i o 0 a 6 wr (hT.below M.out.bel) hi hN5)
  unfold parV at CF
  have HT := Hid.mk hT
  have HR := Hid.mk hR
  clear hT hR
  have b0 := (blk_cell M.out.b 0).trans rfl
  have b1 := (blk_cell M.out.b 1).trans rfl
  have b2 := (blk_cell M.out.b 2).trans rfl
  have b3 := (blk_cell M.out.b 3).trans rfl
  have b4 := (blk_cell M.out.b 4).trans rfl
  revert r
  refine @elim_out 357 _ ?_
  iterate 357 (intro _)
  show Code.wp _ _ _ _ _
  conv => arg 2; dsimp only [xU, xNL, xW, xX, xL, x0, Tryd.f27, Option.getD, sR, sL, cT, cF, bk, lpo]
  conv => arg 4; dsimp only [Fz]
  go_wp2_with fail
  refine CF.out.mono ?_
  rintro e' w3 ⟨rfl, hb⟩
  have M3 := Hid.mk (M.out.below hb)
  clear hb M CF b0 b1 b2 b3 b4
  have r0 := (blk_cell M3.out.r 0).trans rfl
  have r1 := (blk_cell M3.out.r 1).trans rfl
  have r2 := (blk_cell M3.out.r 2).trans rfl
  have r3 := (blk_cell M3.out.r 3).trans rfl
  have r4 := (blk_cell M3.out.r 4).trans rfl
  have fr0 := blk_unfrozen M3.out.r 0
  have fr1 := blk_unfrozen M3.out.r 1
  have fr2 := blk_unfrozen M3.out.r 2
  have fr3 := blk_unfrozen M3.out.r 3
  have fr4 := blk_unfrozen M3.out.r 4
  go_wp2
  refine hq.out _ _ ?_
  refine RQ.ret ?_
  refine bodyPost_ret (by simp [results, Tryd.results27, go_sem, r0, r1, r2, r3, r4]; try rfl) rfl ?_
  refine Ez.bad (L := out) HR.out (by decide) hi ho ?_ ?_
  · exact (((((M3.out.kr.set (Nat.le_succ _) 0 _).set (Nat.le_succ _) 1 _).set (Nat.le_succ _) 2 _).set (Nat.le_succ _) 3 _).set (Nat.le_succ _) 4 _).o
  · exact (((((M3.out.kr.set (Nat.le_succ _) 0 _).set (Nat.le_succ _) 1 _).set (Nat.le_succ _) 2 _).set (Nat.le_succ _) 3 _).set (Nat.le_succ _) 4 _).bel
theorem fail28 {t : List UInt8} {g N c a i o : Nat} {w wr : World} {R : Rs (List Po × Nat × Nat)} {m : Nat} {st : List Ent} {out : List Po} {Q : Exit → Act → World → Prop} {v0 v3 ov sv wt v7 v8 v9 v10 v11 v12 v13 v14 v15 : Value} {r : List Value} (hr : r.length = 357) (hT : Tq t N g w) (hN5 : N ≤ 100000) (hi : i < N) (ho : o ≤ 2000) (hR : R = .bad (fcode 5 (tkT t i)) (tkT t i).at') (M : Hid (Mz g N c a w (i : Int) (o : Int) sv st ov out wr)) (hq : Hid (∀ a' wx, RQ t g N c a w R m .ret a' wx → Q .ret a' wx)) :
    Code.wp Tryd.prog (cT (sR (sL (sR xU)))) Q (Fz w v0 v3 ov sv wt v7 v8 v9 v10 v11 v12 v13 v14 v15 r) wr := by
  have CF := Hid.mk (failS t g N c i o 0 a 5 wr (hT.below M.out.bel) hi hN5)
  unfold parV at CF
  have HT := Hid.mk hT
  have HR := Hid.mk hR
  clear hT hR
  have b0 := (blk_cell M.out.b 0).trans rfl
  have b1 := (blk_cell M.out.b 1).trans rfl
  have b2 := (blk_cell M.out.b 2).trans rfl
  have b3 := (blk_cell M.out.b 3).trans rfl
  have b4 := (blk_cell M.out.b 4).trans rfl
  revert r
  refine @elim_out 357 _ ?_
  iterate 357 (intro _)
  show Code.wp _ _ _ _ _
  conv => arg 2; dsimp only [xU, xNL, xW, xX, xL, x0, Tryd.f27, Option.getD, sR, sL, cT, cF, bk, lpo]
  conv => arg 4; dsimp only [Fz]
  go_wp2_with fail
  refine CF.out.mono ?_
  rintro e' w3 ⟨rfl, hb⟩
  have M3 := Hid.mk (M.out.below hb)
  clear hb M CF b0 b1 b2 b3 b4
  have r0 := (blk_cell M3.out.r 0).trans rfl
  have r1 := (blk_cell M3.out.r 1).trans rfl
  have r2 := (blk_cell M3.out.r 2).trans rfl
  have r3 := (blk_cell M3.out.r 3).trans rfl
  have r4 := (blk_cell M3.out.r 4).trans rfl
  have fr0 := blk_unfrozen M3.out.r 0
  have fr1 := blk_unfrozen M3.out.r 1
  have fr2 := blk_unfrozen M3.out.r 2
  have fr3 := blk_unfrozen M3.out.r 3
  have fr4 := blk_unfrozen M3.out.r 4
  go_wp2
  refine hq.out _ _ ?_
  refine RQ.ret ?_
  refine bodyPost_ret (by simp [results, Tryd.results27, go_sem, r0, r1, r2, r3, r4]; try rfl) rfl ?_
  refine Ez.bad (L := out) HR.out (by decide) hi ho ?_ ?_
  · exact (((((M3.out.kr.set (Nat.le_succ _) 0 _).set (Nat.le_succ _) 1 _).set (Nat.le_succ _) 2 _).set (Nat.le_succ _) 3 _).set (Nat.le_succ _) 4 _).o
  · exact (((((M3.out.kr.set (Nat.le_succ _) 0 _).set (Nat.le_succ _) 1 _).set (Nat.le_succ _) 2 _).set (Nat.le_succ _) 3 _).set (Nat.le_succ _) 4 _).bel
theorem fail37 {t : List UInt8} {g N c a i o : Nat} {w wr : World} {R : Rs (List Po × Nat × Nat)} {m : Nat} {st : List Ent} {out : List Po} {Q : Exit → Act → World → Prop} {v0 v3 ov sv wt v7 v8 v9 v10 v11 v12 v13 v14 v15 : Value} {r : List Value} (hr : r.length = 357) (hT : Tq t N g w) (hN5 : N ≤ 100000) (hi : i < N) (ho : o ≤ 2000) (hR : R = .bad (fcode 5 (tkT t i)) (tkT t i).at') (M : Hid (Mz g N c a w (i : Int) (o : Int) sv st ov out wr)) (hq : Hid (∀ a' wx, RQ t g N c a w R m .ret a' wx → Q .ret a' wx)) :
    Code.wp Tryd.prog (cT (sR (sL xP))) Q (Fz w v0 v3 ov sv wt v7 v8 v9 v10 v11 v12 v13 v14 v15 r) wr := by
  have CF := Hid.mk (failS t g N c i o 0 a 5 wr (hT.below M.out.bel) hi hN5)
  unfold parV at CF
  have HT := Hid.mk hT
  have HR := Hid.mk hR
  clear hT hR
  have b0 := (blk_cell M.out.b 0).trans rfl
  have b1 := (blk_cell M.out.b 1).trans rfl
  have b2 := (blk_cell M.out.b 2).trans rfl
  have b3 := (blk_cell M.out.b 3).trans rfl
  have b4 := (blk_cell M.out.b 4).trans rfl
  revert r
  refine @elim_out 357 _ ?_
  iterate 357 (intro _)
  show Code.wp _ _ _ _ _
  conv => arg 2; dsimp only [xP, xPO, xNL, xW, xX, xL, x0, Tryd.f27, Option.getD, sR, sL, cT, cF, bk, lpo]
  conv => arg 4; dsimp only [Fz]
  go_wp2_with fail
  refine CF.out.mono ?_
  rintro e' w3 ⟨rfl, hb⟩
  have M3 := Hid.mk (M.out.below hb)
  clear hb M CF b0 b1 b2 b3 b4
  have r0 := (blk_cell M3.out.r 0).trans rfl
  have r1 := (blk_cell M3.out.r 1).trans rfl
  have r2 := (blk_cell M3.out.r 2).trans rfl
  have r3 := (blk_cell M3.out.r 3).trans rfl
  have r4 := (blk_cell M3.out.r 4).trans rfl
  have fr0 := blk_unfrozen M3.out.r 0
  have fr1 := blk_unfrozen M3.out.r 1
  have fr2 := blk_unfrozen M3.out.r 2
  have fr3 := blk_unfrozen M3.out.r 3
  have fr4 := blk_unfrozen M3.out.r 4
  go_wp2
  refine hq.out _ _ ?_
  refine RQ.ret ?_
  refine bodyPost_ret (by simp [results, Tryd.results27, go_sem, r0, r1, r2, r3, r4]; try rfl) rfl ?_
  refine Ez.bad (L := out) HR.out (by decide) hi ho ?_ ?_
  · exact (((((M3.out.kr.set (Nat.le_succ _) 0 _).set (Nat.le_succ _) 1 _).set (Nat.le_succ _) 2 _).set (Nat.le_succ _) 3 _).set (Nat.le_succ _) 4 _).o
  · exact (((((M3.out.kr.set (Nat.le_succ _) 0 _).set (Nat.le_succ _) 1 _).set (Nat.le_succ _) 2 _).set (Nat.le_succ _) 3 _).set (Nat.le_succ _) 4 _).bel
theorem fail42 {t : List UInt8} {g N c a i o : Nat} {w wr : World} {R : Rs (List Po × Nat × Nat)} {m : Nat} {st : List Ent} {out : List Po} {Q : Exit → Act → World → Prop} {v0 v3 ov sv wt v7 v8 v9 v10 v11 v12 v13 v14 v15 : Value} {r : List Value} (hr : r.length = 357) (hT : Tq t N g w) (hN5 : N ≤ 100000) (hi : i < N) (ho : o ≤ 2000) (hR : R = .bad (fcode 6 (tkT t i)) (tkT t i).at') (M : Hid (Mz g N c a w (i : Int) (o : Int) sv st ov out wr)) (hq : Hid (∀ a' wx, RQ t g N c a w R m .ret a' wx → Q .ret a' wx)) :
    Code.wp Tryd.prog (cT (sR (sL xCA))) Q (Fz w v0 v3 ov sv wt v7 v8 v9 v10 v11 v12 v13 v14 v15 r) wr := by
  have CF := Hid.mk (failS t g N c i o 0 a 6 wr (hT.below M.out.bel) hi hN5)
  unfold parV at CF
  have HT := Hid.mk hT
  have HR := Hid.mk hR
  clear hT hR
  have b0 := (blk_cell M.out.b 0).trans rfl
  have b1 := (blk_cell M.out.b 1).trans rfl
  have b2 := (blk_cell M.out.b 2).trans rfl
  have b3 := (blk_cell M.out.b 3).trans rfl
  have b4 := (blk_cell M.out.b 4).trans rfl
  revert r
  refine @elim_out 357 _ ?_
  iterate 357 (intro _)
  show Code.wp _ _ _ _ _
  conv => arg 2; dsimp only [xCA, xCL, xPO, xNL, xW, xX, xL, x0, Tryd.f27, Option.getD, sR, sL, cT, cF, bk, lpo]
  conv => arg 4; dsimp only [Fz]
  go_wp2_with fail
  refine CF.out.mono ?_
  rintro e' w3 ⟨rfl, hb⟩
  have M3 := Hid.mk (M.out.below hb)
  clear hb M CF b0 b1 b2 b3 b4
  have r0 := (blk_cell M3.out.r 0).trans rfl
  have r1 := (blk_cell M3.out.r 1).trans rfl
  have r2 := (blk_cell M3.out.r 2).trans rfl
  have r3 := (blk_cell M3.out.r 3).trans rfl
  have r4 := (blk_cell M3.out.r 4).trans rfl
  have fr0 := blk_unfrozen M3.out.r 0
  have fr1 := blk_unfrozen M3.out.r 1
  have fr2 := blk_unfrozen M3.out.r 2
  have fr3 := blk_unfrozen M3.out.r 3
  have fr4 := blk_unfrozen M3.out.r 4
  go_wp2
  refine hq.out _ _ ?_
  refine RQ.ret ?_
  refine bodyPost_ret (by simp [results, Tryd.results27, go_sem, r0, r1, r2, r3, r4]; try rfl) rfl ?_
  refine Ez.bad (L := out) HR.out (by decide) hi ho ?_ ?_
  · exact (((((M3.out.kr.set (Nat.le_succ _) 0 _).set (Nat.le_succ _) 1 _).set (Nat.le_succ _) 2 _).set (Nat.le_succ _) 3 _).set (Nat.le_succ _) 4 _).o
  · exact (((((M3.out.kr.set (Nat.le_succ _) 0 _).set (Nat.le_succ _) 1 _).set (Nat.le_succ _) 2 _).set (Nat.le_succ _) 3 _).set (Nat.le_succ _) 4 _).bel
theorem fail52 {t : List UInt8} {g N c a i o : Nat} {w wr : World} {R : Rs (List Po × Nat × Nat)} {m : Nat} {st : List Ent} {out : List Po} {Q : Exit → Act → World → Prop} {v0 v3 ov sv wt v7 v8 v9 v10 v11 v12 v13 v14 v15 : Value} {r : List Value} (hr : r.length = 357) (hT : Tq t N g w) (hN5 : N ≤ 100000) (hi : i < N) (ho : o ≤ 2000) (hR : R = .bad (fcode 4 (tkT t i)) (tkT t i).at') (M : Hid (Mz g N c a w (i : Int) (o : Int) sv st ov out wr)) (hq : Hid (∀ a' wx, RQ t g N c a w R m .ret a' wx → Q .ret a' wx)) :
    Code.wp Tryd.prog (cT (sR (sL (sR (sR (sR (sR (sR (sR xCA))))))))) Q (Fz w v0 v3 ov sv wt v7 v8 v9 v10 v11 v12 v13 v14 v15 r) wr := by
  have CF := Hid.mk (failS t g N c i o 0 a 4 wr (hT.below M.out.bel) hi hN5)
  unfold parV at CF
  have HT := Hid.mk hT
  have HR := Hid.mk hR
  clear hT hR
  have b0 := (blk_cell M.out.b 0).trans rfl
  have b1 := (blk_cell M.out.b 1).trans rfl
  have b2 := (blk_cell M.out.b 2).trans rfl
  have b3 := (blk_cell M.out.b 3).trans rfl
  have b4 := (blk_cell M.out.b 4).trans rfl
  revert r
  refine @elim_out 357 _ ?_
  iterate 357 (intro _)
  show Code.wp _ _ _ _ _
  conv => arg 2; dsimp only [xCA, xCL, xPO, xNL, xW, xX, xL, x0, Tryd.f27, Option.getD, sR, sL, cT, cF, bk, lpo]
  conv => arg 4; dsimp only [Fz]
  go_wp2_with fail
  refine CF.out.mono ?_
  rintro e' w3 ⟨rfl, hb⟩
  have M3 := Hid.mk (M.out.below hb)
  clear hb M CF b0 b1 b2 b3 b4
  have r0 := (blk_cell M3.out.r 0).trans rfl
  have r1 := (blk_cell M3.out.r 1).trans rfl
  have r2 := (blk_cell M3.out.r 2).trans rfl
  have r3 := (blk_cell M3.out.r 3).trans rfl
  have r4 := (blk_cell M3.out.r 4).trans rfl
  have fr0 := blk_unfrozen M3.out.r 0
  have fr1 := blk_unfrozen M3.out.r 1
  have fr2 := blk_unfrozen M3.out.r 2
  have fr3 := blk_unfrozen M3.out.r 3
  have fr4 := blk_unfrozen M3.out.r 4
  go_wp2
  refine hq.out _ _ ?_
  refine RQ.ret ?_
  refine bodyPost_ret (by simp [results, Tryd.results27, go_sem, r0, r1, r2, r3, r4]; try rfl) rfl ?_
  refine Ez.bad (L := out) HR.out (by decide) hi ho ?_ ?_
  · exact (((((M3.out.kr.set (Nat.le_succ _) 0 _).set (Nat.le_succ _) 1 _).set (Nat.le_succ _) 2 _).set (Nat.le_succ _) 3 _).set (Nat.le_succ _) 4 _).o
  · exact (((((M3.out.kr.set (Nat.le_succ _) 0 _).set (Nat.le_succ _) 1 _).set (Nat.le_succ _) 2 _).set (Nat.le_succ _) 3 _).set (Nat.le_succ _) 4 _).bel
theorem fail54 {t : List UInt8} {g N c a i o : Nat} {w wr : World} {R : Rs (List Po × Nat × Nat)} {m : Nat} {st : List Ent} {out : List Po} {Q : Exit → Act → World → Prop} {v0 v3 ov sv wt v7 v8 v9 v10 v11 v12 v13 v14 v15 : Value} {r : List Value} (hr : r.length = 357) (hT : Tq t N g w) (hN5 : N ≤ 100000) (hi : i < N) (ho : o ≤ 2000) (hR : R = .bad (fcode 5 (tkT t i)) (tkT t i).at') (M : Hid (Mz g N c a w (i : Int) (o : Int) sv st ov out wr)) (hq : Hid (∀ a' wx, RQ t g N c a w R m .ret a' wx → Q .ret a' wx)) :
    Code.wp Tryd.prog (cT (sR (sL (sR (sR (sR (sR (sR (sR (sR xCA)))))))))) Q (Fz w v0 v3 ov sv wt v7 v8 v9 v10 v11 v12 v13 v14 v15 r) wr := by
  have CF := Hid.mk (failS t g N c i o 0 a 5 wr (hT.below M.out.bel) hi hN5)
  unfold parV at CF
  have HT := Hid.mk hT
  have HR := Hid.mk hR
  clear hT hR
  have b0 := (blk_cell M.out.b 0).trans rfl
  have b1 := (blk_cell M.out.b 1).trans rfl
  have b2 := (blk_cell M.out.b 2).trans rfl
  have b3 := (blk_cell M.out.b 3).trans rfl
  have b4 := (blk_cell M.out.b 4).trans rfl
  revert r
  refine @elim_out 357 _ ?_
  iterate 357 (intro _)
  show Code.wp _ _ _ _ _
  conv => arg 2; dsimp only [xCA, xCL, xPO, xNL, xW, xX, xL, x0, Tryd.f27, Option.getD, sR, sL, cT, cF, bk, lpo]
  conv => arg 4; dsimp only [Fz]
  go_wp2_with fail
  refine CF.out.mono ?_
  rintro e' w3 ⟨rfl, hb⟩
  have M3 := Hid.mk (M.out.below hb)
  clear hb M CF b0 b1 b2 b3 b4
  have r0 := (blk_cell M3.out.r 0).trans rfl
  have r1 := (blk_cell M3.out.r 1).trans rfl
  have r2 := (blk_cell M3.out.r 2).trans rfl
  have r3 := (blk_cell M3.out.r 3).trans rfl
  have r4 := (blk_cell M3.out.r 4).trans rfl
  have fr0 := blk_unfrozen M3.out.r 0
  have fr1 := blk_unfrozen M3.out.r 1
  have fr2 := blk_unfrozen M3.out.r 2
  have fr3 := blk_unfrozen M3.out.r 3
  have fr4 := blk_unfrozen M3.out.r 4
  go_wp2
  refine hq.out _ _ ?_
  refine RQ.ret ?_
  refine bodyPost_ret (by simp [results, Tryd.results27, go_sem, r0, r1, r2, r3, r4]; try rfl) rfl ?_
  refine Ez.bad (L := out) HR.out (by decide) hi ho ?_ ?_
  · exact (((((M3.out.kr.set (Nat.le_succ _) 0 _).set (Nat.le_succ _) 1 _).set (Nat.le_succ _) 2 _).set (Nat.le_succ _) 3 _).set (Nat.le_succ _) 4 _).o
  · exact (((((M3.out.kr.set (Nat.le_succ _) 0 _).set (Nat.le_succ _) 1 _).set (Nat.le_succ _) 2 _).set (Nat.le_succ _) 3 _).set (Nat.le_succ _) 4 _).bel
theorem fail57 {t : List UInt8} {g N c a i o : Nat} {w wr : World} {R : Rs (List Po × Nat × Nat)} {m : Nat} {st : List Ent} {out : List Po} {Q : Exit → Act → World → Prop} {v0 v3 ov sv wt v7 v8 v9 v10 v11 v12 v13 v14 v15 : Value} {r : List Value} (hr : r.length = 357) (hT : Tq t N g w) (hN5 : N ≤ 100000) (hi : i < N) (ho : o ≤ 2000) (hR : R = .bad (fcode 4 (tkT t i)) (tkT t i).at') (M : Hid (Mz g N c a w (i : Int) (o : Int) sv st ov out wr)) (hq : Hid (∀ a' wx, RQ t g N c a w R m .ret a' wx → Q .ret a' wx)) :
    Code.wp Tryd.prog (cF (sR xCL)) Q (Fz w v0 v3 ov sv wt v7 v8 v9 v10 v11 v12 v13 v14 v15 r) wr := by
  have CF := Hid.mk (failS t g N c i o 0 a 4 wr (hT.below M.out.bel) hi hN5)
  unfold parV at CF
  have HT := Hid.mk hT
  have HR := Hid.mk hR
  clear hT hR
  have b0 := (blk_cell M.out.b 0).trans rfl
  have b1 := (blk_cell M.out.b 1).trans rfl
  have b2 := (blk_cell M.out.b 2).trans rfl
  have b3 := (blk_cell M.out.b 3).trans rfl
  have b4 := (blk_cell M.out.b 4).trans rfl
  revert r
  refine @elim_out 357 _ ?_
  iterate 357 (intro _)
  show Code.wp _ _ _ _ _
  conv => arg 2; dsimp only [xCL, xPO, xNL, xW, xX, xL, x0, Tryd.f27, Option.getD, sR, sL, cT, cF, bk, lpo]
  conv => arg 4; dsimp only [Fz]
  go_wp2_with fail
  refine CF.out.mono ?_
  rintro e' w3 ⟨rfl, hb⟩
  have M3 := Hid.mk (M.out.below hb)
  clear hb M CF b0 b1 b2 b3 b4
  have r0 := (blk_cell M3.out.r 0).trans rfl
  have r1 := (blk_cell M3.out.r 1).trans rfl
  have r2 := (blk_cell M3.out.r 2).trans rfl
  have r3 := (blk_cell M3.out.r 3).trans rfl
  have r4 := (blk_cell M3.out.r 4).trans rfl
  have fr0 := blk_unfrozen M3.out.r 0
  have fr1 := blk_unfrozen M3.out.r 1
  have fr2 := blk_unfrozen M3.out.r 2
  have fr3 := blk_unfrozen M3.out.r 3
  have fr4 := blk_unfrozen M3.out.r 4
  go_wp2
  refine hq.out _ _ ?_
  refine RQ.ret ?_
  refine bodyPost_ret (by simp [results, Tryd.results27, go_sem, r0, r1, r2, r3, r4]; try rfl) rfl ?_
  refine Ez.bad (L := out) HR.out (by decide) hi ho ?_ ?_
  · exact (((((M3.out.kr.set (Nat.le_succ _) 0 _).set (Nat.le_succ _) 1 _).set (Nat.le_succ _) 2 _).set (Nat.le_succ _) 3 _).set (Nat.le_succ _) 4 _).o
  · exact (((((M3.out.kr.set (Nat.le_succ _) 0 _).set (Nat.le_succ _) 1 _).set (Nat.le_succ _) 2 _).set (Nat.le_succ _) 3 _).set (Nat.le_succ _) 4 _).bel
theorem fail67 {t : List UInt8} {g N c a i o : Nat} {w wr : World} {R : Rs (List Po × Nat × Nat)} {m : Nat} {st : List Ent} {out : List Po} {Q : Exit → Act → World → Prop} {v0 v3 ov sv wt v7 v8 v9 v10 v11 v12 v13 v14 v15 : Value} {r : List Value} (hr : r.length = 357) (hT : Tq t N g w) (hN5 : N ≤ 100000) (hi : i < N) (ho : o ≤ 2000) (hR : R = .bad (fcode 4 (tkT t i)) (tkT t i).at') (M : Hid (Mz g N c a w (i : Int) (o : Int) sv st ov out wr)) (hq : Hid (∀ a' wx, RQ t g N c a w R m .ret a' wx → Q .ret a' wx)) :
    Code.wp Tryd.prog (cT (sR (sR (cT (sR (sL (sR xBI))))))) Q (Fz w v0 v3 ov sv wt v7 v8 v9 v10 v11 v12 v13 v14 v15 r) wr := by
  have CF := Hid.mk (failS t g N c i o 0 a 4 wr (hT.below M.out.bel) hi hN5)
  unfold parV at CF
  have HT := Hid.mk hT
  have HR := Hid.mk hR
  clear hT hR
  have b0 := (blk_cell M.out.b 0).trans rfl
  have b1 := (blk_cell M.out.b 1).trans rfl
  have b2 := (blk_cell M.out.b 2).trans rfl
  have b3 := (blk_cell M.out.b 3).trans rfl
  have b4 := (blk_cell M.out.b 4).trans rfl
  revert r
  refine @elim_out 357 _ ?_
  iterate 357 (intro _)
  show Code.wp _ _ _ _ _
  conv => arg 2; dsimp only [xBI, xN, xX, xL, x0, Tryd.f27, Option.getD, sR, sL, cT, cF, bk, lpo]
  conv => arg 4; dsimp only [Fz]
  go_wp2_with fail
  refine CF.out.mono ?_
  rintro e' w3 ⟨rfl, hb⟩
  have M3 := Hid.mk (M.out.below hb)
  clear hb M CF b0 b1 b2 b3 b4
  have r0 := (blk_cell M3.out.r 0).trans rfl
  have r1 := (blk_cell M3.out.r 1).trans rfl
  have r2 := (blk_cell M3.out.r 2).trans rfl
  have r3 := (blk_cell M3.out.r 3).trans rfl
  have r4 := (blk_cell M3.out.r 4).trans rfl
  have fr0 := blk_unfrozen M3.out.r 0
  have fr1 := blk_unfrozen M3.out.r 1
  have fr2 := blk_unfrozen M3.out.r 2
  have fr3 := blk_unfrozen M3.out.r 3
  have fr4 := blk_unfrozen M3.out.r 4
  go_wp2
  refine hq.out _ _ ?_
  refine RQ.ret ?_
  refine bodyPost_ret (by simp [results, Tryd.results27, go_sem, r0, r1, r2, r3, r4]; try rfl) rfl ?_
  refine Ez.bad (L := out) HR.out (by decide) hi ho ?_ ?_
  · exact (((((M3.out.kr.set (Nat.le_succ _) 0 _).set (Nat.le_succ _) 1 _).set (Nat.le_succ _) 2 _).set (Nat.le_succ _) 3 _).set (Nat.le_succ _) 4 _).o
  · exact (((((M3.out.kr.set (Nat.le_succ _) 0 _).set (Nat.le_succ _) 1 _).set (Nat.le_succ _) 2 _).set (Nat.le_succ _) 3 _).set (Nat.le_succ _) 4 _).bel
theorem fail69 {t : List UInt8} {g N c a i o : Nat} {w wr : World} {R : Rs (List Po × Nat × Nat)} {m : Nat} {st : List Ent} {out : List Po} {Q : Exit → Act → World → Prop} {v0 v3 ov sv wt v7 v8 v9 v10 v11 v12 v13 v14 v15 : Value} {r : List Value} (hr : r.length = 357) (hT : Tq t N g w) (hN5 : N ≤ 100000) (hi : i < N) (ho : o ≤ 2000) (hR : R = .bad (fcode 6 (tkT t i)) (tkT t i).at') (M : Hid (Mz g N c a w (i : Int) (o : Int) sv st ov out wr)) (hq : Hid (∀ a' wx, RQ t g N c a w R m .ret a' wx → Q .ret a' wx)) :
    Code.wp Tryd.prog (cT (sR (sL (sR (sR xBI))))) Q (Fz w v0 v3 ov sv wt v7 v8 v9 v10 v11 v12 v13 v14 v15 r) wr := by
  have CF := Hid.mk (failS t g N c i o 0 a 6 wr (hT.below M.out.bel) hi hN5)
  unfold parV at CF
  have HT := Hid.mk hT
  have HR := Hid.mk hR
  clear hT hR
  have b0 := (blk_cell M.out.b 0).trans rfl
  have b1 := (blk_cell M.out.b 1).trans rfl
  have b2 := (blk_cell M.out.b 2).trans rfl
  have b3 := (blk_cell M.out.b 3).trans rfl
  have b4 := (blk_cell M.out.b 4).trans rfl
  revert r
  refine @elim_out 357 _ ?_
  iterate 357 (intro _)
  show Code.wp _ _ _ _ _
  conv => arg 2; dsimp only [xBI, xN, xX, xL, x0, Tryd.f27, Option.getD, sR, sL, cT, cF, bk, lpo]
  conv => arg 4; dsimp only [Fz]
  go_wp2_with fail
  refine CF.out.mono ?_
  rintro e' w3 ⟨rfl, hb⟩
  have M3 := Hid.mk (M.out.below hb)
  clear hb M CF b0 b1 b2 b3 b4
  have r0 := (blk_cell M3.out.r 0).trans rfl
  have r1 := (blk_cell M3.out.r 1).trans rfl
  have r2 := (blk_cell M3.out.r 2).trans rfl
  have r3 := (blk_cell M3.out.r 3).trans rfl
  have r4 := (blk_cell M3.out.r 4).trans rfl
  have fr0 := blk_unfrozen M3.out.r 0
  have fr1 := blk_unfrozen M3.out.r 1
  have fr2 := blk_unfrozen M3.out.r 2
  have fr3 := blk_unfrozen M3.out.r 3
  have fr4 := blk_unfrozen M3.out.r 4
  go_wp2
  refine hq.out _ _ ?_
  refine RQ.ret ?_
  refine bodyPost_ret (by simp [results, Tryd.results27, go_sem, r0, r1, r2, r3, r4]; try rfl) rfl ?_
  refine Ez.bad (L := out) HR.out (by decide) hi ho ?_ ?_
  · exact (((((M3.out.kr.set (Nat.le_succ _) 0 _).set (Nat.le_succ _) 1 _).set (Nat.le_succ _) 2 _).set (Nat.le_succ _) 3 _).set (Nat.le_succ _) 4 _).o
  · exact (((((M3.out.kr.set (Nat.le_succ _) 0 _).set (Nat.le_succ _) 1 _).set (Nat.le_succ _) 2 _).set (Nat.le_succ _) 3 _).set (Nat.le_succ _) 4 _).bel
theorem fail90 {t : List UInt8} {g N c a i o : Nat} {w wr : World} {R : Rs (List Po × Nat × Nat)} {m : Nat} {st : List Ent} {out : List Po} {Q : Exit → Act → World → Prop} {v0 v3 ov sv wt v7 v8 v9 v10 v11 v12 v13 v14 v15 : Value} {r : List Value} (hr : r.length = 357) (hT : Tq t N g w) (hN5 : N ≤ 100000) (hi : i < N) (ho : o ≤ 2000) (hR : R = .bad (fcode 4 (tkT t i)) (tkT t i).at') (M : Hid (Mz g N c a w (i : Int) (o : Int) sv st ov out wr)) (hq : Hid (∀ a' wx, RQ t g N c a w R m .ret a' wx → Q .ret a' wx)) :
    Code.wp Tryd.prog (cF (sR xPC)) Q (Fz w v0 v3 ov sv wt v7 v8 v9 v10 v11 v12 v13 v14 v15 r) wr := by
  have CF := Hid.mk (failS t g N c i o 0 a 4 wr (hT.below M.out.bel) hi hN5)
  unfold parV at CF
  have HT := Hid.mk hT
  have HR := Hid.mk hR
  clear hT hR
  have b0 := (blk_cell M.out.b 0).trans rfl
  have b1 := (blk_cell M.out.b 1).trans rfl
  have b2 := (blk_cell M.out.b 2).trans rfl
  have b3 := (blk_cell M.out.b 3).trans rfl
  have b4 := (blk_cell M.out.b 4).trans rfl
  revert r
  refine @elim_out 357 _ ?_
  iterate 357 (intro _)
  show Code.wp _ _ _ _ _
  conv => arg 2; dsimp only [xPC, xNC, xNB, xN, xX, xL, x0, Tryd.f27, Option.getD, sR, sL, cT, cF, bk, lpo]
  conv => arg 4; dsimp only [Fz]
  go_wp2_with fail
  refine CF.out.mono ?_
  rintro e' w3 ⟨rfl, hb⟩
  have M3 := Hid.mk (M.out.below hb)
  clear hb M CF b0 b1 b2 b3 b4
  have r0 := (blk_cell M3.out.r 0).trans rfl
  have r1 := (blk_cell M3.out.r 1).trans rfl
  have r2 := (blk_cell M3.out.r 2).trans rfl
  have r3 := (blk_cell M3.out.r 3).trans rfl
  have r4 := (blk_cell M3.out.r 4).trans rfl
  have fr0 := blk_unfrozen M3.out.r 0
  have fr1 := blk_unfrozen M3.out.r 1
  have fr2 := blk_unfrozen M3.out.r 2
  have fr3 := blk_unfrozen M3.out.r 3
  have fr4 := blk_unfrozen M3.out.r 4
  go_wp2
  refine hq.out _ _ ?_
  refine RQ.ret ?_
  refine bodyPost_ret (by simp [results, Tryd.results27, go_sem, r0, r1, r2, r3, r4]; try rfl) rfl ?_
  refine Ez.bad (L := out) HR.out (by decide) hi ho ?_ ?_
  · exact (((((M3.out.kr.set (Nat.le_succ _) 0 _).set (Nat.le_succ _) 1 _).set (Nat.le_succ _) 2 _).set (Nat.le_succ _) 3 _).set (Nat.le_succ _) 4 _).o
  · exact (((((M3.out.kr.set (Nat.le_succ _) 0 _).set (Nat.le_succ _) 1 _).set (Nat.le_succ _) 2 _).set (Nat.le_succ _) 3 _).set (Nat.le_succ _) 4 _).bel
theorem fail18 {t : List UInt8} {g N c a i o : Nat} {w wr : World} {R : Rs (List Po × Nat × Nat)} {m : Nat} {st : List Ent} {out : List Po} {Q : Exit → Act → World → Prop} {v0 v3 ov sv wt v7 v8 v9 v10 v11 v12 v13 v14 v15 : Value} {r : List Value} (hr : r.length = 357) (hT : Tq t N g w) (hN5 : N ≤ 100000) (hi : i < N) (ho : o ≤ 2000) (hR : R = .bad (fcode 4 (tkT t i)) (tkT t i).at') (M : Hid (Mz g N c a w (i : Int) (o : Int) sv st ov out wr)) (hq : Hid (∀ a' wx, RQ t g N c a w R m .ret a' wx → Q .ret a' wx)) :
    Code.wp Tryd.prog (cT (sR (sL (sR xTG)))) Q (Fz w v0 v3 ov sv wt v7 v8 v9 v10 v11 v12 v13 v14 v15 r) wr := by
  have CF := Hid.mk (failS t g N c i o 0 a 4 wr (hT.below M.out.bel) hi hN5)
  unfold parV at CF
  have HT := Hid.mk hT
  have HR := Hid.mk hR
  clear hT hR
  have b0 := (blk_cell M.out.b 0).trans rfl
  have b1 := (blk_cell M.out.b 1).trans rfl
  have b2 := (blk_cell M.out.b 2).trans rfl
  have b3 := (blk_cell M.out.b 3).trans rfl
  have b4 := (blk_cell M.out.b 4).trans rfl
  revert r
  refine @elim_out 357 _ ?_
  iterate 357 (intro _)
  show Code.wp _ _ _ _ _
  conv => arg 2; dsimp only [xTG, xLF, xW, xX, xL, x0, Tryd.f27, Option.getD, sR, sL, cT, cF, bk, lpo]
  conv => arg 4; dsimp only [Fz]
  go_wp2_with fail
  refine CF.out.mono ?_
  rintro e' w3 ⟨rfl, hb⟩
  have M3 := Hid.mk (M.out.below hb)
  clear hb M CF b0 b1 b2 b3 b4
  have r0 := (blk_cell M3.out.r 0).trans rfl
  have r1 := (blk_cell M3.out.r 1).trans rfl
  have r2 := (blk_cell M3.out.r 2).trans rfl
  have r3 := (blk_cell M3.out.r 3).trans rfl
  have r4 := (blk_cell M3.out.r 4).trans rfl
  have fr0 := blk_unfrozen M3.out.r 0
  have fr1 := blk_unfrozen M3.out.r 1
  have fr2 := blk_unfrozen M3.out.r 2
  have fr3 := blk_unfrozen M3.out.r 3
  have fr4 := blk_unfrozen M3.out.r 4
  go_wp2
  refine hq.out _ _ ?_
  refine RQ.ret ?_
  refine bodyPost_ret (by simp [results, Tryd.results27, go_sem, r0, r1, r2, r3, r4]; try rfl) rfl ?_
  refine Ez.bad (L := out) HR.out (by decide) hi ho ?_ ?_
  · exact (((((M3.out.kr.set (Nat.le_succ _) 0 _).set (Nat.le_succ _) 1 _).set (Nat.le_succ _) 2 _).set (Nat.le_succ _) 3 _).set (Nat.le_succ _) 4 _).o
  · exact (((((M3.out.kr.set (Nat.le_succ _) 0 _).set (Nat.le_succ _) 1 _).set (Nat.le_succ _) 2 _).set (Nat.le_succ _) 3 _).set (Nat.le_succ _) 4 _).bel
end Go.Proofs.YtfoigigbggickaaDoor.Par
