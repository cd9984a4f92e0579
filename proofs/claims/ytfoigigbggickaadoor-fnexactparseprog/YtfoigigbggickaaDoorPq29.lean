import Derived.Test.YtfoigigbggickaaDoorPq27
namespace Go.Proofs.YtfoigigbggickaaDoor.Par
open Go Go.RowKit Go.Proofs.YtfoigigbggickaaDoor.Mem Go.Proofs.YtfoigigbggickaaDoor.Syn Go.Proofs.YtfoigigbggickaaDoor.Parse
set_option linter.unusedVariables false
set_option linter.unusedSimpArgs false
set_option maxHeartbeats 6400000
set_option maxRecDepth 1000000
attribute [local go_sem ↓] Go.wp_at_zero Go.wp_at_succ
theorem chko11A {g N c a i o : Nat} {w wr : World} {st : List Ent} {out : List Po} {Q : Exit → Act → World → Prop} {v0 v3 ov sv wt v7 v8 v9 v10 v11 v12 v13 v14 v15 : Value} {r : List Value} (hr : r.length = 357) {A B : Code} (M : Hid (Mz g N c a w (i : Int) (o : Int) sv st ov out wr)) (ho : o = 2000) (hn : Hid (∀ r', r'.length = 357 → Code.wp Tryd.prog A Q (Fz w v0 v3 ov sv wt v7 v8 v9 v10 v11 v12 v13 v14 v15 r') wr)) :
    Code.wp Tryd.prog (.seq (sL (sL xLF)) (.cond (.tmp 42) A B)) Q (Fz w v0 v3 ov sv wt v7 v8 v9 v10 v11 v12 v13 v14 v15 r) wr := by
  have b2 := (blk_cell M.out.b 2).trans rfl
  have h1 : ((o : Int) == 2000) = true := by simp; omega
  clear ho
  revert r
  refine @elim_out 357 _ ?_
  iterate 357 (intro _)
  show Code.wp _ _ _ _ _
  conv => arg 2; dsimp only [xLF, xW, xX, xL, x0, Tryd.f27, Option.getD, sR, sL, cT, cF, bk, lpo]
  conv => arg 4; dsimp only [Fz]
  go_wp2_with fail
  refine hn.out _ ?_
  rfl
theorem chko11B {g N c a i o : Nat} {w wr : World} {st : List Ent} {out : List Po} {Q : Exit → Act → World → Prop} {v0 v3 ov sv wt v7 v8 v9 v10 v11 v12 v13 v14 v15 : Value} {r : List Value} (hr : r.length = 357) {A B : Code} (M : Hid (Mz g N c a w (i : Int) (o : Int) sv st ov out wr)) (ho : o ≠ 2000) (hn : Hid (∀ r', r'.length = 357 → Code.wp Tryd.prog B Q (Fz w v0 v3 ov sv wt v7 v8 v9 v10 v11 v12 v13 v14 v15 r') wr)) :
    Code.wp Tryd.prog (.seq (sL (sL xLF)) (.cond (.tmp 42) A B)) Q (Fz w v0 v3 ov sv wt v7 v8 v9 v10 v11 v12 v13 v14 v15 r) wr := by
  have b2 := (blk_cell M.out.b 2).trans rfl
  have h1 : ((o : Int) == 2000) = false := by simp; omega
  clear ho
  revert r
  refine @elim_out 357 _ ?_
  iterate 357 (intro _)
  show Code.wp _ _ _ _ _
  conv => arg 2; dsimp only [xLF, xW, xX, xL, x0, Tryd.f27, Option.getD, sR, sL, cT, cF, bk, lpo]
  conv => arg 4; dsimp only [Fz]
  go_wp2_with fail
  refine hn.out _ ?_
  rfl
theorem chko25A {g N c a i o : Nat} {w wr : World} {st : List Ent} {out : List Po} {Q : Exit → Act → World → Prop} {v0 v3 ov sv wt v7 v8 v9 v10 v11 v12 v13 v14 v15 : Value} {r : List Value} (hr : r.length = 357) {A B : Code} (M : Hid (Mz g N c a w (i : Int) (o : Int) sv st ov out wr)) (ho : o = 2000) (hn : Hid (∀ r', r'.length = 357 → Code.wp Tryd.prog A Q (Fz w v0 v3 ov sv wt v7 v8 v9 v10 v11 v12 v13 v14 v15 r') wr)) :
    Code.wp Tryd.prog (.seq (sL (sL xU)) (.cond (.tmp 108) A B)) Q (Fz w v0 v3 ov sv wt v7 v8 v9 v10 v11 v12 v13 v14 v15 r) wr := by
  have b2 := (blk_cell M.out.b 2).trans rfl
  have h1 : ((o : Int) == 2000) = true := by simp; omega
  clear ho
  revert r
  refine @elim_out 357 _ ?_
  iterate 357 (intro _)
  show Code.wp _ _ _ _ _
  conv => arg 2; dsimp only [xU, xNL, xW, xX, xL, x0, Tryd.f27, Option.getD, sR, sL, cT, cF, bk, lpo]
  conv => arg 4; dsimp only [Fz]
  go_wp2_with fail
  refine hn.out _ ?_
  rfl
theorem chko25B {g N c a i o : Nat} {w wr : World} {st : List Ent} {out : List Po} {Q : Exit → Act → World → Prop} {v0 v3 ov sv wt v7 v8 v9 v10 v11 v12 v13 v14 v15 : Value} {r : List Value} (hr : r.length = 357) {A B : Code} (M : Hid (Mz g N c a w (i : Int) (o : Int) sv st ov out wr)) (ho : o ≠ 2000) (hn : Hid (∀ r', r'.length = 357 → Code.wp Tryd.prog B Q (Fz w v0 v3 ov sv wt v7 v8 v9 v10 v11 v12 v13 v14 v15 r') wr)) :
    Code.wp Tryd.prog (.seq (sL (sL xU)) (.cond (.tmp 108) A B)) Q (Fz w v0 v3 ov sv wt v7 v8 v9 v10 v11 v12 v13 v14 v15 r) wr := by
  have b2 := (blk_cell M.out.b 2).trans rfl
  have h1 : ((o : Int) == 2000) = false := by simp; omega
  clear ho
  revert r
  refine @elim_out 357 _ ?_
  iterate 357 (intro _)
  show Code.wp _ _ _ _ _
  conv => arg 2; dsimp only [xU, xNL, xW, xX, xL, x0, Tryd.f27, Option.getD, sR, sL, cT, cF, bk, lpo]
  conv => arg 4; dsimp only [Fz]
  go_wp2_with fail
  refine hn.out _ ?_
  rfl
theorem chko41A {g N c a i o : Nat} {w wr : World} {st : List Ent} {out : List Po} {Q : Exit → Act → World → Prop} {v0 v3 ov sv wt v7 v8 v9 v10 v11 v12 v13 v14 v15 : Value} {r : List Value} (hr : r.length = 357) {A B : Code} (M : Hid (Mz g N c a w (i : Int) (o : Int) sv st ov out wr)) (ho : o = 2000) (hn : Hid (∀ r', r'.length = 357 → Code.wp Tryd.prog A Q (Fz w v0 v3 ov sv wt v7 v8 v9 v10 v11 v12 v13 v14 v15 r') wr)) :
    Code.wp Tryd.prog (.seq (sL (sL xCA)) (.cond (.tmp 162) A B)) Q (Fz w v0 v3 ov sv wt v7 v8 v9 v10 v11 v12 v13 v14 v15 r) wr := by
  have b2 := (blk_cell M.out.b 2).trans rfl
  have h1 : ((o : Int) == 2000) = true := by simp; omega
  clear ho
  revert r
  refine @elim_out 357 _ ?_
  iterate 357 (intro _)
  show Code.wp _ _ _ _ _
  conv => arg 2; dsimp only [xCA, xCL, xPO, xNL, xW, xX, xL, x0, Tryd.f27, Option.getD, sR, sL, cT, cF, bk, lpo]
  conv => arg 4; dsimp only [Fz]
  go_wp2_with fail
  refine hn.out _ ?_
  rfl
theorem chko41B {g N c a i o : Nat} {w wr : World} {st : List Ent} {out : List Po} {Q : Exit → Act → World → Prop} {v0 v3 ov sv wt v7 v8 v9 v10 v11 v12 v13 v14 v15 : Value} {r : List Value} (hr : r.length = 357) {A B : Code} (M : Hid (Mz g N c a w (i : Int) (o : Int) sv st ov out wr)) (ho : o ≠ 2000) (hn : Hid (∀ r', r'.length = 357 → Code.wp Tryd.prog B Q (Fz w v0 v3 ov sv wt v7 v8 v9 v10 v11 v12 v13 v14 v15 r') wr)) :
    Code.wp Tryd.prog (.seq (sL (sL xCA)) (.cond (.tmp 162) A B)) Q (Fz w v0 v3 ov sv wt v7 v8 v9 v10 v11 v12 v13 v14 v15 r) wr := by
  have b2 := (blk_cell M.out.b 2).trans rfl
  have h1 : ((o : Int) == 2000) = false := by simp; omega
  clear ho
  revert r
  refine @elim_out 357 _ ?_
  iterate 357 (intro _)
  show Code.wp _ _ _ _ _
  conv => arg 2; dsimp only [xCA, xCL, xPO, xNL, xW, xX, xL, x0, Tryd.f27, Option.getD, sR, sL, cT, cF, bk, lpo]
  conv => arg 4; dsimp only [Fz]
  go_wp2_with fail
  refine hn.out _ ?_
  rfl
theorem chko68A {g N c a i o : Nat} {w wr : World} {st : List Ent} {out : List Po} {Q : Exit → Act → World → Prop} {v0 v3 ov sv wt v7 v8 v9 v10 v11 v12 v13 v14 v15 : Value} {r : List Value} (hr : r.length = 357) {A B : Code} (M : Hid (Mz g N c a w (i : Int) (o : Int) sv st ov out wr)) (ho : o = 2000) (hn : Hid (∀ r', r'.length = 357 → Code.wp Tryd.prog A Q (Fz w v0 v3 ov sv wt v7 v8 v9 v10 v11 v12 v13 v14 v15 r') wr)) :
    Code.wp Tryd.prog (.seq (sL (sL (sR (sR xBI)))) (.cond (.tmp 261) A B)) Q (Fz w v0 v3 ov sv wt v7 v8 v9 v10 v11 v12 v13 v14 v15 r) wr := by
  have b2 := (blk_cell M.out.b 2).trans rfl
  have h1 : ((o : Int) == 2000) = true := by simp; omega
  clear ho
  revert r
  refine @elim_out 357 _ ?_
  iterate 357 (intro _)
  show Code.wp _ _ _ _ _
  conv => arg 2; dsimp only [xBI, xN, xX, xL, x0, Tryd.f27, Option.getD, sR, sL, cT, cF, bk, lpo]
  conv => arg 4; dsimp only [Fz]
  go_wp2_with fail
  refine hn.out _ ?_
  rfl
theorem chko68B {g N c a i o : Nat} {w wr : World} {st : List Ent} {out : List Po} {Q : Exit → Act → World → Prop} {v0 v3 ov sv wt v7 v8 v9 v10 v11 v12 v13 v14 v15 : Value} {r : List Value} (hr : r.length = 357) {A B : Code} (M : Hid (Mz g N c a w (i : Int) (o : Int) sv st ov out wr)) (ho : o ≠ 2000) (hn : Hid (∀ r', r'.length = 357 → Code.wp Tryd.prog B Q (Fz w v0 v3 ov sv wt v7 v8 v9 v10 v11 v12 v13 v14 v15 r') wr)) :
    Code.wp Tryd.prog (.seq (sL (sL (sR (sR xBI)))) (.cond (.tmp 261) A B)) Q (Fz w v0 v3 ov sv wt v7 v8 v9 v10 v11 v12 v13 v14 v15 r) wr := by
  have b2 := (blk_cell M.out.b 2).trans rfl
  have h1 : ((o : Int) == 2000) = false := by simp; omega
  clear ho
  revert r
  refine @elim_out 357 _ ?_
  iterate 357 (intro _)
  show Code.wp _ _ _ _ _
  conv => arg 2; dsimp only [xBI, xN, xX, xL, x0, Tryd.f27, Option.getD, sR, sL, cT, cF, bk, lpo]
  conv => arg 4; dsimp only [Fz]
  go_wp2_with fail
  refine hn.out _ ?_
  rfl
theorem inc13 {g N c a i o : Nat} {w wr : World} {st : List Ent} {out : List Po} {Q : Exit → Act → World → Prop} {v0 v3 ov sv wt v7 v8 v9 v10 v11 v12 v13 v14 v15 : Value} {r : List Value} (hr : r.length = 357) (M : Hid (Mz g N c a w (i : Int) (o : Int) sv st ov out wr)) (hb : o ≤ 100000) (hn : Hid (∀ r', r'.length = 357 → Q .normal (Fz w v0 v3 ov sv wt v7 v8 v9 v10 v11 v12 v13 v14 v15 r') (wr.setCell ⟨w.heap.size, 2, none⟩ (.int .i64 (((o + 1 : Nat) : Int)))))) :
    Code.wp Tryd.prog (sL (sR xLF)) Q (Fz w v0 v3 ov sv wt v7 v8 v9 v10 v11 v12 v13 v14 v15 r) wr := by
  have h1 : IntKind.i64.wrap ((o : Int) + 1) = ((o + 1 : Nat) : Int) := by rw [IntKind.wrap_i64]; omega
  have b2 := (blk_cell M.out.b 2).trans rfl
  have fb2 := blk_unfrozen M.out.b 2
  revert r
  refine @elim_out 357 _ ?_
  iterate 357 (intro _)
  show Code.wp _ _ _ _ _
  conv => arg 2; dsimp only [xLF, xW, xX, xL, x0, Tryd.f27, Option.getD, sR, sL, cT, cF, bk, lpo]
  conv => arg 4; dsimp only [Fz]
  go_wp2_with fail
  refine hn.out _ ?_
  rfl
theorem inc14 {g N c a i o : Nat} {w wr : World} {st : List Ent} {out : List Po} {Q : Exit → Act → World → Prop} {v0 v3 ov sv wt v7 v8 v9 v10 v11 v12 v13 v14 v15 : Value} {r : List Value} (hr : r.length = 357) (M : Hid (Mz g N c a w (i : Int) (o : Int) sv st ov out wr)) (hb : i ≤ 100000) (hn : Hid (∀ r', r'.length = 357 → Q .normal (Fz w v0 v3 ov sv wt v7 v8 v9 v10 v11 v12 v13 v14 v15 r') (wr.setCell ⟨w.heap.size, 1, none⟩ (.int .i64 (((i + 1 : Nat) : Int)))))) :
    Code.wp Tryd.prog (sL (sR (sR xLF))) Q (Fz w v0 v3 ov sv wt v7 v8 v9 v10 v11 v12 v13 v14 v15 r) wr := by
  have h1 : IntKind.i64.wrap ((i : Int) + 1) = ((i + 1 : Nat) : Int) := by rw [IntKind.wrap_i64]; omega
  have b1 := (blk_cell M.out.b 1).trans rfl
  have fb1 := blk_unfrozen M.out.b 1
  revert r
  refine @elim_out 357 _ ?_
  iterate 357 (intro _)
  show Code.wp _ _ _ _ _
  conv => arg 2; dsimp only [xLF, xW, xX, xL, x0, Tryd.f27, Option.getD, sR, sL, cT, cF, bk, lpo]
  conv => arg 4; dsimp only [Fz]
  go_wp2_with fail
  refine hn.out _ ?_
  rfl
theorem inc33 {g N c a i o : Nat} {w wr : World} {st : List Ent} {out : List Po} {Q : Exit → Act → World → Prop} {v0 v3 ov sv wt v7 v8 v9 v10 v11 v12 v13 v14 v15 : Value} {r : List Value} (hr : r.length = 357) (M : Hid (Mz g N c a w (i : Int) (o : Int) sv st ov out wr)) (hb : o ≤ 100000) (hn : Hid (∀ r', r'.length = 357 → Q .normal (Fz w v0 v3 ov sv wt v7 v8 v9 v10 v11 v12 v13 v14 v15 r') (wr.setCell ⟨w.heap.size, 2, none⟩ (.int .i64 (((o + 1 : Nat) : Int)))))) :
    Code.wp Tryd.prog (sL (sR (sR (sR (sR (sR xU)))))) Q (Fz w v0 v3 ov sv wt v7 v8 v9 v10 v11 v12 v13 v14 v15 r) wr := by
  have h1 : IntKind.i64.wrap ((o : Int) + 1) = ((o + 1 : Nat) : Int) := by rw [IntKind.wrap_i64]; omega
  have b2 := (blk_cell M.out.b 2).trans rfl
  have fb2 := blk_unfrozen M.out.b 2
  revert r
  refine @elim_out 357 _ ?_
  iterate 357 (intro _)
  show Code.wp _ _ _ _ _
  conv => arg 2; dsimp only [xU, xNL, xW, xX, xL, x0, Tryd.f27, Option.getD, sR, sL, cT, cF, bk, lpo]
  conv => arg 4; dsimp only [Fz]
  go_wp2_with fail
  refine hn.out _ ?_
  rfl
theorem inc34 {g N c a i o : Nat} {w wr : World} {st : List Ent} {out : List Po} {Q : Exit → Act → World → Prop} {v0 v3 ov sv wt v7 v8 v9 v10 v11 v12 v13 v14 v15 : Value} {r : List Value} (hr : r.length = 357) (M : Hid (Mz g N c a w (i : Int) (o : Int) sv st ov out wr)) (hb : i ≤ 100000) (hn : Hid (∀ r', r'.length = 357 → Q .normal (Fz w v0 v3 ov sv wt v7 v8 v9 v10 v11 v12 v13 v14 v15 r') (wr.setCell ⟨w.heap.size, 1, none⟩ (.int .i64 (((i + 1 : Nat) : Int)))))) :
    Code.wp Tryd.prog (sR (sR (sR (sR (sR (sR xU)))))) Q (Fz w v0 v3 ov sv wt v7 v8 v9 v10 v11 v12 v13 v14 v15 r) wr := by
  have h1 : IntKind.i64.wrap ((i : Int) + 1) = ((i + 1 : Nat) : Int) := by rw [IntKind.wrap_i64]; omega
  have b1 := (blk_cell M.out.b 1).trans rfl
  have fb1 := blk_unfrozen M.out.b 1
  revert r
  refine @elim_out 357 _ ?_
  iterate 357 (intro _)
  show Code.wp _ _ _ _ _
  conv => arg 2; dsimp only [xU, xNL, xW, xX, xL, x0, Tryd.f27, Option.getD, sR, sL, cT, cF, bk, lpo]
  conv => arg 4; dsimp only [Fz]
  go_wp2_with fail
  refine hn.out _ ?_
  rfl
theorem inc39 {g N c a i o : Nat} {w wr : World} {st : List Ent} {out : List Po} {Q : Exit → Act → World → Prop} {v0 v3 ov sv wt v7 v8 v9 v10 v11 v12 v13 v14 v15 : Value} {r : List Value} (hr : r.length = 357) (M : Hid (Mz g N c a w (i : Int) (o : Int) sv st ov out wr)) (hb : i ≤ 100000) (hn : Hid (∀ r', r'.length = 357 → Q .normal (Fz w v0 v3 ov sv wt v7 v8 v9 v10 v11 v12 v13 v14 v15 r') (wr.setCell ⟨w.heap.size, 1, none⟩ (.int .i64 (((i + 1 : Nat) : Int)))))) :
    Code.wp Tryd.prog (sR (sR xP)) Q (Fz w v0 v3 ov sv wt v7 v8 v9 v10 v11 v12 v13 v14 v15 r) wr := by
  have h1 : IntKind.i64.wrap ((i : Int) + 1) = ((i + 1 : Nat) : Int) := by rw [IntKind.wrap_i64]; omega
  have b1 := (blk_cell M.out.b 1).trans rfl
  have fb1 := blk_unfrozen M.out.b 1
  revert r
  refine @elim_out 357 _ ?_
  iterate 357 (intro _)
  show Code.wp _ _ _ _ _
  conv => arg 2; dsimp only [xP, xPO, xNL, xW, xX, xL, x0, Tryd.f27, Option.getD, sR, sL, cT, cF, bk, lpo]
  conv => arg 4; dsimp only [Fz]
  go_wp2_with fail
  refine hn.out _ ?_
  rfl
theorem inc49 {g N c a i o : Nat} {w wr : World} {st : List Ent} {out : List Po} {Q : Exit → Act → World → Prop} {v0 v3 ov sv wt v7 v8 v9 v10 v11 v12 v13 v14 v15 : Value} {r : List Value} (hr : r.length = 357) (M : Hid (Mz g N c a w (i : Int) (o : Int) sv st ov out wr)) (hb : o ≤ 100000) (hn : Hid (∀ r', r'.length = 357 → Q .normal (Fz w v0 v3 ov sv wt v7 v8 v9 v10 v11 v12 v13 v14 v15 r') (wr.setCell ⟨w.heap.size, 2, none⟩ (.int .i64 (((o + 1 : Nat) : Int)))))) :
    Code.wp Tryd.prog (sL (sR (sR (sR (sR xCA))))) Q (Fz w v0 v3 ov sv wt v7 v8 v9 v10 v11 v12 v13 v14 v15 r) wr := by
  have h1 : IntKind.i64.wrap ((o : Int) + 1) = ((o + 1 : Nat) : Int) := by rw [IntKind.wrap_i64]; omega
  have b2 := (blk_cell M.out.b 2).trans rfl
  have fb2 := blk_unfrozen M.out.b 2
  revert r
  refine @elim_out 357 _ ?_
  iterate 357 (intro _)
  show Code.wp _ _ _ _ _
  conv => arg 2; dsimp only [xCA, xCL, xPO, xNL, xW, xX, xL, x0, Tryd.f27, Option.getD, sR, sL, cT, cF, bk, lpo]
  conv => arg 4; dsimp only [Fz]
  go_wp2_with fail
  refine hn.out _ ?_
  rfl
theorem inc50 {g N c a i o : Nat} {w wr : World} {st : List Ent} {out : List Po} {Q : Exit → Act → World → Prop} {v0 v3 ov sv wt v7 v8 v9 v10 v11 v12 v13 v14 v15 : Value} {r : List Value} (hr : r.length = 357) (M : Hid (Mz g N c a w (i : Int) (o : Int) sv st ov out wr)) (hb : i ≤ 100000) (hn : Hid (∀ r', r'.length = 357 → Q .normal (Fz w v0 v3 ov sv wt v7 v8 v9 v10 v11 v12 v13 v14 v15 r') (wr.setCell ⟨w.heap.size, 1, none⟩ (.int .i64 (((i + 1 : Nat) : Int)))))) :
    Code.wp Tryd.prog (sL (sR (sR (sR (sR (sR xCA)))))) Q (Fz w v0 v3 ov sv wt v7 v8 v9 v10 v11 v12 v13 v14 v15 r) wr := by
  have h1 : IntKind.i64.wrap ((i : Int) + 1) = ((i + 1 : Nat) : Int) := by rw [IntKind.wrap_i64]; omega
  have b1 := (blk_cell M.out.b 1).trans rfl
  have fb1 := blk_unfrozen M.out.b 1
  revert r
  refine @elim_out 357 _ ?_
  iterate 357 (intro _)
  show Code.wp _ _ _ _ _
  conv => arg 2; dsimp only [xCA, xCL, xPO, xNL, xW, xX, xL, x0, Tryd.f27, Option.getD, sR, sL, cT, cF, bk, lpo]
  conv => arg 4; dsimp only [Fz]
  go_wp2_with fail
  refine hn.out _ ?_
  rfl
theorem inc56 {g N c a i o : Nat} {w wr : World} {st : List Ent} {out : List Po} {Q : Exit → Act → World → Prop} {v0 v3 ov sv wt v7 v8 v9 v10 v11 v12 v13 v14 v15 : Value} {r : List Value} (hr : r.length = 357) (M : Hid (Mz g N c a w (i : Int) (o : Int) sv st ov out wr)) (hb : i ≤ 100000) (hn : Hid (∀ r', r'.length = 357 → Q .normal (Fz w v0 v3 ov sv wt v7 v8 v9 v10 v11 v12 v13 v14 v15 r') (wr.setCell ⟨w.heap.size, 1, none⟩ (.int .i64 (((i + 1 : Nat) : Int)))))) :
    Code.wp Tryd.prog (sR (sR (sR (sR (sR (sR (sR (sR (sR xCA))))))))) Q (Fz w v0 v3 ov sv wt v7 v8 v9 v10 v11 v12 v13 v14 v15 r) wr := by
  have h1 : IntKind.i64.wrap ((i : Int) + 1) = ((i + 1 : Nat) : Int) := by rw [IntKind.wrap_i64]; omega
  have b1 := (blk_cell M.out.b 1).trans rfl
  have fb1 := blk_unfrozen M.out.b 1
  revert r
  refine @elim_out 357 _ ?_
  iterate 357 (intro _)
  show Code.wp _ _ _ _ _
  conv => arg 2; dsimp only [xCA, xCL, xPO, xNL, xW, xX, xL, x0, Tryd.f27, Option.getD, sR, sL, cT, cF, bk, lpo]
  conv => arg 4; dsimp only [Fz]
  go_wp2_with fail
  refine hn.out _ ?_
  rfl
theorem inc72 {g N c a i o : Nat} {w wr : World} {st : List Ent} {out : List Po} {Q : Exit → Act → World → Prop} {v0 v3 ov sv wt v7 v8 v9 v10 v11 v12 v13 v14 v15 : Value} {r : List Value} (hr : r.length = 357) (M : Hid (Mz g N c a w (i : Int) (o : Int) sv st ov out wr)) (hb : o ≤ 100000) (hn : Hid (∀ r', r'.length = 357 → Q .normal (Fz w v0 v3 ov sv wt v7 v8 v9 v10 v11 v12 v13 v14 v15 r') (wr.setCell ⟨w.heap.size, 2, none⟩ (.int .i64 (((o + 1 : Nat) : Int)))))) :
    Code.wp Tryd.prog (sL (sR (sR (sR (sR (sR xBI)))))) Q (Fz w v0 v3 ov sv wt v7 v8 v9 v10 v11 v12 v13 v14 v15 r) wr := by
  have h1 : IntKind.i64.wrap ((o : Int) + 1) = ((o + 1 : Nat) : Int) := by rw [IntKind.wrap_i64]; omega
  have b2 := (blk_cell M.out.b 2).trans rfl
  have fb2 := blk_unfrozen M.out.b 2
  revert r
  refine @elim_out 357 _ ?_
  iterate 357 (intro _)
  show Code.wp _ _ _ _ _
  conv => arg 2; dsimp only [xBI, xN, xX, xL, x0, Tryd.f27, Option.getD, sR, sL, cT, cF, bk, lpo]
  conv => arg 4; dsimp only [Fz]
  go_wp2_with fail
  refine hn.out _ ?_
  rfl
theorem inc73 {g N c a i o : Nat} {w wr : World} {st : List Ent} {out : List Po} {Q : Exit → Act → World → Prop} {v0 v3 ov sv wt v7 v8 v9 v10 v11 v12 v13 v14 v15 : Value} {r : List Value} (hr : r.length = 357) (M : Hid (Mz g N c a w (i : Int) (o : Int) sv st ov out wr)) (hb : i ≤ 100000) (hn : Hid (∀ r', r'.length = 357 → Q .normal (Fz w v0 v3 ov sv wt v7 v8 v9 v10 v11 v12 v13 v14 v15 r') (wr.setCell ⟨w.heap.size, 1, none⟩ (.int .i64 (((i + 1 : Nat) : Int)))))) :
    Code.wp Tryd.prog (sL (sR (sR (sR (sR (sR (sR xBI))))))) Q (Fz w v0 v3 ov sv wt v7 v8 v9 v10 v11 v12 v13 v14 v15 r) wr := by
  have h1 : IntKind.i64.wrap ((i : Int) + 1) = ((i + 1 : Nat) : Int) := by rw [IntKind.wrap_i64]; omega
  have b1 := (blk_cell M.out.b 1).trans rfl
  have fb1 := blk_unfrozen M.out.b 1
  revert r
  refine @elim_out 357 _ ?_
  iterate 357 (intro _)
  show Code.wp _ _ _ _ _
  conv => arg 2; dsimp only [xBI, xN, xX, xL, x0, Tryd.f27, Option.getD, sR, sL, cT, cF, bk, lpo]
  conv => arg 4; dsimp only [Fz]
  go_wp2_with fail
  refine hn.out _ ?_
  rfl
theorem inc81 {g N c a i o : Nat} {w wr : World} {st : List Ent} {out : List Po} {Q : Exit → Act → World → Prop} {v0 v3 ov sv wt v7 v8 v9 v10 v11 v12 v13 v14 v15 : Value} {r : List Value} (hr : r.length = 357) (M : Hid (Mz g N c a w (i : Int) (o : Int) sv st ov out wr)) (hb : i ≤ 100000) (hn : Hid (∀ r', r'.length = 357 → Q .normal (Fz w v0 v3 ov sv wt v7 v8 v9 v10 v11 v12 v13 v14 v15 r') (wr.setCell ⟨w.heap.size, 1, none⟩ (.int .i64 (((i + 1 : Nat) : Int)))))) :
    Code.wp Tryd.prog (sL (sR (sR xCO))) Q (Fz w v0 v3 ov sv wt v7 v8 v9 v10 v11 v12 v13 v14 v15 r) wr := by
  have h1 : IntKind.i64.wrap ((i : Int) + 1) = ((i + 1 : Nat) : Int) := by rw [IntKind.wrap_i64]; omega
  have b1 := (blk_cell M.out.b 1).trans rfl
  have fb1 := blk_unfrozen M.out.b 1
  revert r
  refine @elim_out 357 _ ?_
  iterate 357 (intro _)
  show Code.wp _ _ _ _ _
  conv => arg 2; dsimp only [xCO, xNC, xNB, xN, xX, xL, x0, Tryd.f27, Option.getD, sR, sL, cT, cF, bk, lpo]
  conv => arg 4; dsimp only [Fz]
  go_wp2_with fail
  refine hn.out _ ?_
  rfl
theorem inc88 {g N c a i o : Nat} {w wr : World} {st : List Ent} {out : List Po} {Q : Exit → Act → World → Prop} {v0 v3 ov sv wt v7 v8 v9 v10 v11 v12 v13 v14 v15 : Value} {r : List Value} (hr : r.length = 357) (M : Hid (Mz g N c a w (i : Int) (o : Int) sv st ov out wr)) (hb : i ≤ 100000) (hn : Hid (∀ r', r'.length = 357 → Q .normal (Fz w v0 v3 ov sv wt v7 v8 v9 v10 v11 v12 v13 v14 v15 r') (wr.setCell ⟨w.heap.size, 1, none⟩ (.int .i64 (((i + 1 : Nat) : Int)))))) :
    Code.wp Tryd.prog (sL (sR (sR (sR xCS)))) Q (Fz w v0 v3 ov sv wt v7 v8 v9 v10 v11 v12 v13 v14 v15 r) wr := by
  have h1 : IntKind.i64.wrap ((i : Int) + 1) = ((i + 1 : Nat) : Int) := by rw [IntKind.wrap_i64]; omega
  have b1 := (blk_cell M.out.b 1).trans rfl
  have fb1 := blk_unfrozen M.out.b 1
  revert r
  refine @elim_out 357 _ ?_
  iterate 357 (intro _)
  show Code.wp _ _ _ _ _
  conv => arg 2; dsimp only [xCS, xPC, xNC, xNB, xN, xX, xL, x0, Tryd.f27, Option.getD, sR, sL, cT, cF, bk, lpo]
  conv => arg 4; dsimp only [Fz]
  go_wp2_with fail
  refine hn.out _ ?_
  rfl
theorem inc20 {g N c a i o : Nat} {w wr : World} {st : List Ent} {out : List Po} {Q : Exit → Act → World → Prop} {v0 v3 ov sv wt v7 v8 v9 v10 v11 v12 v13 v14 v15 : Value} {r : List Value} (hr : r.length = 357) (M : Hid (Mz g N c a w (i : Int) (o : Int) sv st ov out wr)) (hb : i ≤ 100000) (hn : Hid (∀ r', r'.length = 357 → Q .normal (Fz w v0 v3 ov sv wt v7 v8 v9 v10 v11 v12 v13 v14 v15 r') (wr.setCell ⟨w.heap.size, 1, none⟩ (.int .i64 (((i + 1 : Nat) : Int)))))) :
    Code.wp Tryd.prog (sR (sR (sR xTG))) Q (Fz w v0 v3 ov sv wt v7 v8 v9 v10 v11 v12 v13 v14 v15 r) wr := by
  have h1 : IntKind.i64.wrap ((i : Int) + 1) = ((i + 1 : Nat) : Int) := by rw [IntKind.wrap_i64]; omega
  have b1 := (blk_cell M.out.b 1).trans rfl
  have fb1 := blk_unfrozen M.out.b 1
  revert r
  refine @elim_out 357 _ ?_
  iterate 357 (intro _)
  show Code.wp _ _ _ _ _
  conv => arg 2; dsimp only [xTG, xLF, xW, xX, xL, x0, Tryd.f27, Option.getD, sR, sL, cT, cF, bk, lpo]
  conv => arg 4; dsimp only [Fz]
  go_wp2_with fail
  refine hn.out _ ?_
  rfl
theorem setw23 {w wr : World} {Q : Exit → Act → World → Prop} {v0 v3 ov sv wt v7 v8 v9 v10 v11 v12 v13 v14 v15 : Value} {r : List Value} (hr : r.length = 357) (hn : Hid (∀ r', r'.length = 357 → Q .normal (Fz w v0 v3 ov sv (.bool false) v7 v8 v9 v10 v11 v12 v13 v14 v15 r') wr)) :
    Code.wp Tryd.prog (sR (sR (sR (sR (sR (sR xLF)))))) Q (Fz w v0 v3 ov sv wt v7 v8 v9 v10 v11 v12 v13 v14 v15 r) wr := by
  revert r
  refine @elim_out 357 _ ?_
  iterate 357 (intro _)
  show Code.wp _ _ _ _ _
  conv => arg 2; dsimp only [xLF, xW, xX, xL, x0, Tryd.f27, Option.getD, sR, sL, cT, cF, bk, lpo]
  conv => arg 4; dsimp only [Fz]
  go_wp2_with fail
  refine hn.out _ ?_
  rfl
theorem setw74 {w wr : World} {Q : Exit → Act → World → Prop} {v0 v3 ov sv wt v7 v8 v9 v10 v11 v12 v13 v14 v15 : Value} {r : List Value} (hr : r.length = 357) (hn : Hid (∀ r', r'.length = 357 → Q .normal (Fz w v0 v3 ov sv (.bool true) v7 v8 v9 v10 v11 v12 v13 v14 v15 r') wr)) :
    Code.wp Tryd.prog (sR (sR (sR (sR (sR (sR (sR xBI))))))) Q (Fz w v0 v3 ov sv wt v7 v8 v9 v10 v11 v12 v13 v14 v15 r) wr := by
  revert r
  refine @elim_out 357 _ ?_
  iterate 357 (intro _)
  show Code.wp _ _ _ _ _
  conv => arg 2; dsimp only [xBI, xN, xX, xL, x0, Tryd.f27, Option.getD, sR, sL, cT, cF, bk, lpo]
  conv => arg 4; dsimp only [Fz]
  go_wp2_with fail
  refine hn.out _ ?_
  rfl
theorem setw82 {w wr : World} {Q : Exit → Act → World → Prop} {v0 v3 ov sv wt v7 v8 v9 v10 v11 v12 v13 v14 v15 : Value} {r : List Value} (hr : r.length = 357) (hn : Hid (∀ r', r'.length = 357 → Q .normal (Fz w v0 v3 ov sv (.bool true) v7 v8 v9 v10 v11 v12 v13 v14 v15 r') wr)) :
    Code.wp Tryd.prog (sR (sR (sR xCO))) Q (Fz w v0 v3 ov sv wt v7 v8 v9 v10 v11 v12 v13 v14 v15 r) wr := by
  revert r
  refine @elim_out 357 _ ?_
  iterate 357 (intro _)
  show Code.wp _ _ _ _ _
  conv => arg 2; dsimp only [xCO, xNC, xNB, xN, xX, xL, x0, Tryd.f27, Option.getD, sR, sL, cT, cF, bk, lpo]
  conv => arg 4; dsimp only [Fz]
  go_wp2_with fail
  refine hn.out _ ?_
  rfl
theorem setk29 {w wr : World} {Q : Exit → Act → World → Prop} {v0 v3 ov sv wt v7 v8 v9 v10 v11 v12 v13 v14 v15 : Value} {r : List Value} (hr : r.length = 357) (hn : Hid (∀ r', r'.length = 357 → Q .normal (Fz w v0 v3 ov sv wt v7 v8 v9 v10 (.int .i64 1) v12 v13 v14 v15 r') wr)) :
    Code.wp Tryd.prog (sL (sR (sR xU))) Q (Fz w v0 v3 ov sv wt v7 v8 v9 v10 v11 v12 v13 v14 v15 r) wr := by
  revert r
  refine @elim_out 357 _ ?_
  iterate 357 (intro _)
  show Code.wp _ _ _ _ _
  conv => arg 2; dsimp only [xU, xNL, xW, xX, xL, x0, Tryd.f27, Option.getD, sR, sL, cT, cF, bk, lpo]
  conv => arg 4; dsimp only [Fz]
  go_wp2_with fail
  refine hn.out _ ?_
  rfl
theorem setb58 {w wr : World} {Q : Exit → Act → World → Prop} {v0 v3 ov sv wt v7 v8 v9 v10 v11 v12 v13 v14 v15 : Value} {r : List Value} (hr : r.length = 357) (hn : Hid (∀ r', r'.length = 357 → Q .normal (Fz w v0 v3 ov sv wt v7 v8 v9 v10 v11 v12 (.int .i64 (-1)) v14 v15 r') wr)) :
    Code.wp Tryd.prog (sL xN) Q (Fz w v0 v3 ov sv wt v7 v8 v9 v10 v11 v12 v13 v14 v15 r) wr := by
  revert r
  refine @elim_out 357 _ ?_
  iterate 357 (intro _)
  show Code.wp _ _ _ _ _
  conv => arg 2; dsimp only [xN, xX, xL, x0, Tryd.f27, Option.getD, sR, sL, cT, cF, bk, lpo]
  conv => arg 4; dsimp only [Fz]
  go_wp2_with fail
  refine hn.out _ ?_
  rfl
end Go.Proofs.YtfoigigbggickaaDoor.Par
