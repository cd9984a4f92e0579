import Derived.Test.YtfoigigbggickaaDoorPq27
namespace Go.Proofs.YtfoigigbggickaaDoor.Par
open Go Go.RowKit Go.Proofs.YtfoigigbggickaaDoor.Mem Go.Proofs.YtfoigigbggickaaDoor.Syn Go.Proofs.YtfoigigbggickaaDoor.Parse
set_option linter.unusedVariables false
set_option linter.unusedSimpArgs false
set_option maxHeartbeats 6400000
set_option maxRecDepth 1000000
attribute [local go_sem ↓] Go.wp_at_zero Go.wp_at_succ
theorem opn27A {g N c a i o : Nat} {w wr : World} {st : List Ent} {out : List Po} {Q : Exit → Act → World → Prop} {v0 v3 ov wt v7 v8 v9 v10 v11 v12 v13 v14 v15 : Value} {r : List Value} (hr : r.length = 357) {A B : Code} {sa : Option Addr} {sc : Nat} (M : Hid (Mz g N c a w (i : Int) (o : Int) (.slice sa st.length sc) st ov out wr)) (hl : st.length ≤ 100000) (ho : opens st = 64) (hn : Hid (∀ r', r'.length = 357 → Code.wp Tryd.prog A Q (Fz w v0 v3 ov (.slice sa st.length sc) wt v7 v8 v9 v10 v11 v12 v13 v14 v15 r') wr)) :
    Code.wp Tryd.prog (.seq (sL (sL (sR xU))) (.cond (.tmp 114) A B)) Q (Fz w v0 v3 ov (.slice sa st.length sc) wt v7 v8 v9 v10 v11 v12 v13 v14 v15 r) wr := by
  have CO := Hid.mk (openS w.heap.size sa st.length sc st wr M.out.e rfl hl)
  have h1 : ((opens st : Int) == 64) = true := by simp; omega
  clear ho
  revert r
  refine @elim_out 357 _ ?_
  iterate 357 (intro _)
  show Code.wp _ _ _ _ _
  conv => arg 2; dsimp only [xU, xNL, xW, xX, xL, x0, Tryd.f27, Option.getD, sR, sL, cT, cF, bk, lpo]
  conv => arg 4; dsimp only [Fz]
  go_wp2_with (go_at_call 44; go_must (refine CO.out.mono ?_; rintro e' w2 ⟨rfl, hww⟩; rw [hww]; clear hww))
  refine hn.out _ ?_
  rfl
theorem opn27B {g N c a i o : Nat} {w wr : World} {st : List Ent} {out : List Po} {Q : Exit → Act → World → Prop} {v0 v3 ov wt v7 v8 v9 v10 v11 v12 v13 v14 v15 : Value} {r : List Value} (hr : r.length = 357) {A B : Code} {sa : Option Addr} {sc : Nat} (M : Hid (Mz g N c a w (i : Int) (o : Int) (.slice sa st.length sc) st ov out wr)) (hl : st.length ≤ 100000) (ho : opens st ≠ 64) (hn : Hid (∀ r', r'.length = 357 → Code.wp Tryd.prog B Q (Fz w v0 v3 ov (.slice sa st.length sc) wt v7 v8 v9 v10 v11 v12 v13 v14 v15 r') wr)) :
    Code.wp Tryd.prog (.seq (sL (sL (sR xU))) (.cond (.tmp 114) A B)) Q (Fz w v0 v3 ov (.slice sa st.length sc) wt v7 v8 v9 v10 v11 v12 v13 v14 v15 r) wr := by
  have CO := Hid.mk (openS w.heap.size sa st.length sc st wr M.out.e rfl hl)
  have h1 : ((opens st : Int) == 64) = false := by simp; omega
  clear ho
  revert r
  refine @elim_out 357 _ ?_
  iterate 357 (intro _)
  show Code.wp _ _ _ _ _
  conv => arg 2; dsimp only [xU, xNL, xW, xX, xL, x0, Tryd.f27, Option.getD, sR, sL, cT, cF, bk, lpo]
  conv => arg 4; dsimp only [Fz]
  go_wp2_with (go_at_call 44; go_must (refine CO.out.mono ?_; rintro e' w2 ⟨rfl, hww⟩; rw [hww]; clear hww))
  refine hn.out _ ?_
  rfl
theorem opn36A {g N c a i o : Nat} {w wr : World} {st : List Ent} {out : List Po} {Q : Exit → Act → World → Prop} {v0 v3 ov wt v7 v8 v9 v10 v11 v12 v13 v14 v15 : Value} {r : List Value} (hr : r.length = 357) {A B : Code} {sa : Option Addr} {sc : Nat} (M : Hid (Mz g N c a w (i : Int) (o : Int) (.slice sa st.length sc) st ov out wr)) (hl : st.length ≤ 100000) (ho : opens st = 64) (hn : Hid (∀ r', r'.length = 357 → Code.wp Tryd.prog A Q (Fz w v0 v3 ov (.slice sa st.length sc) wt v7 v8 v9 v10 v11 v12 v13 v14 v15 r') wr)) :
    Code.wp Tryd.prog (.seq (sL (sL xP)) (.cond (.tmp 138) A B)) Q (Fz w v0 v3 ov (.slice sa st.length sc) wt v7 v8 v9 v10 v11 v12 v13 v14 v15 r) wr := by
  have CO := Hid.mk (openS w.heap.size sa st.length sc st wr M.out.e rfl hl)
  have h1 : ((opens st : Int) == 64) = true := by simp; omega
  clear ho
  revert r
  refine @elim_out 357 _ ?_
  iterate 357 (intro _)
  show Code.wp _ _ _ _ _
  conv => arg 2; dsimp only [xP, xPO, xNL, xW, xX, xL, x0, Tryd.f27, Option.getD, sR, sL, cT, cF, bk, lpo]
  conv => arg 4; dsimp only [Fz]
  go_wp2_with (go_at_call 44; go_must (refine CO.out.mono ?_; rintro e' w2 ⟨rfl, hww⟩; rw [hww]; clear hww))
  refine hn.out _ ?_
  rfl
theorem opn36B {g N c a i o : Nat} {w wr : World} {st : List Ent} {out : List Po} {Q : Exit → Act → World → Prop} {v0 v3 ov wt v7 v8 v9 v10 v11 v12 v13 v14 v15 : Value} {r : List Value} (hr : r.length = 357) {A B : Code} {sa : Option Addr} {sc : Nat} (M : Hid (Mz g N c a w (i : Int) (o : Int) (.slice sa st.length sc) st ov out wr)) (hl : st.length ≤ 100000) (ho : opens st ≠ 64) (hn : Hid (∀ r', r'.length = 357 → Code.wp Tryd.prog B Q (Fz w v0 v3 ov (.slice sa st.length sc) wt v7 v8 v9 v10 v11 v12 v13 v14 v15 r') wr)) :
    Code.wp Tryd.prog (.seq (sL (sL xP)) (.cond (.tmp 138) A B)) Q (Fz w v0 v3 ov (.slice sa st.length sc) wt v7 v8 v9 v10 v11 v12 v13 v14 v15 r) wr := by
  have CO := Hid.mk (openS w.heap.size sa st.length sc st wr M.out.e rfl hl)
  have h1 : ((opens st : Int) == 64) = false := by simp; omega
  clear ho
  revert r
  refine @elim_out 357 _ ?_
  iterate 357 (intro _)
  show Code.wp _ _ _ _ _
  conv => arg 2; dsimp only [xP, xPO, xNL, xW, xX, xL, x0, Tryd.f27, Option.getD, sR, sL, cT, cF, bk, lpo]
  conv => arg 4; dsimp only [Fz]
  go_wp2_with (go_at_call 44; go_must (refine CO.out.mono ?_; rintro e' w2 ⟨rfl, hww⟩; rw [hww]; clear hww))
  refine hn.out _ ?_
  rfl
theorem opn53A {g N c a i o : Nat} {w wr : World} {st : List Ent} {out : List Po} {Q : Exit → Act → World → Prop} {v0 v3 ov wt v7 v8 v9 v10 v11 v12 v13 v14 v15 : Value} {r : List Value} (hr : r.length = 357) {A B : Code} {sa : Option Addr} {sc : Nat} (M : Hid (Mz g N c a w (i : Int) (o : Int) (.slice sa st.length sc) st ov out wr)) (hl : st.length ≤ 100000) (ho : opens st = 64) (hn : Hid (∀ r', r'.length = 357 → Code.wp Tryd.prog A Q (Fz w v0 v3 ov (.slice sa st.length sc) wt v7 v8 v9 v10 v11 v12 v13 v14 v15 r') wr)) :
    Code.wp Tryd.prog (.seq (sL (sL (sR (sR (sR (sR (sR (sR (sR xCA))))))))) (.cond (.tmp 192) A B)) Q (Fz w v0 v3 ov (.slice sa st.length sc) wt v7 v8 v9 v10 v11 v12 v13 v14 v15 r) wr := by
  have CO := Hid.mk (openS w.heap.size sa st.length sc st wr M.out.e rfl hl)
  have h1 : ((opens st : Int) == 64) = true := by simp; omega
  clear ho
  revert r
  refine @elim_out 357 _ ?_
  iterate 357 (intro _)
  show Code.wp _ _ _ _ _
  conv => arg 2; dsimp only [xCA, xCL, xPO, xNL, xW, xX, xL, x0, Tryd.f27, Option.getD, sR, sL, cT, cF, bk, lpo]
  conv => arg 4; dsimp only [Fz]
  go_wp2_with (go_at_call 44; go_must (refine CO.out.mono ?_; rintro e' w2 ⟨rfl, hww⟩; rw [hww]; clear hww))
  refine hn.out _ ?_
  rfl
theorem opn53B {g N c a i o : Nat} {w wr : World} {st : List Ent} {out : List Po} {Q : Exit → Act → World → Prop} {v0 v3 ov wt v7 v8 v9 v10 v11 v12 v13 v14 v15 : Value} {r : List Value} (hr : r.length = 357) {A B : Code} {sa : Option Addr} {sc : Nat} (M : Hid (Mz g N c a w (i : Int) (o : Int) (.slice sa st.length sc) st ov out wr)) (hl : st.length ≤ 100000) (ho : opens st ≠ 64) (hn : Hid (∀ r', r'.length = 357 → Code.wp Tryd.prog B Q (Fz w v0 v3 ov (.slice sa st.length sc) wt v7 v8 v9 v10 v11 v12 v13 v14 v15 r') wr)) :
    Code.wp Tryd.prog (.seq (sL (sL (sR (sR (sR (sR (sR (sR (sR xCA))))))))) (.cond (.tmp 192) A B)) Q (Fz w v0 v3 ov (.slice sa st.length sc) wt v7 v8 v9 v10 v11 v12 v13 v14 v15 r) wr := by
  have CO := Hid.mk (openS w.heap.size sa st.length sc st wr M.out.e rfl hl)
  have h1 : ((opens st : Int) == 64) = false := by simp; omega
  clear ho
  revert r
  refine @elim_out 357 _ ?_
  iterate 357 (intro _)
  show Code.wp _ _ _ _ _
  conv => arg 2; dsimp only [xCA, xCL, xPO, xNL, xW, xX, xL, x0, Tryd.f27, Option.getD, sR, sL, cT, cF, bk, lpo]
  conv => arg 4; dsimp only [Fz]
  go_wp2_with (go_at_call 44; go_must (refine CO.out.mono ?_; rintro e' w2 ⟨rfl, hww⟩; rw [hww]; clear hww))
  refine hn.out _ ?_
  rfl
theorem push32 {g N c a i o : Nat} {w wr : World} {st : List Ent} {out : List Po} {Q : Exit → Act → World → Prop} {v0 v3 ov wt v7 v8 v9 v10 v12 v13 v14 v15 : Value} {r : List Value} (hr : r.length = 357) {sa : Option Addr} {sc : Nat} (M : Hid (Mz g N c a w (i : Int) (o : Int) (.slice sa st.length sc) st ov out wr)) (hl : st.length ≤ 100000) {k : Nat} (hn : Hid (∀ r' sv' wx, r'.length = 357 → Mz g N c a w (i : Int) (o : Int) sv' (⟨k, 0, 0⟩ :: st) ov out wx → Q .normal (Fz w v0 v3 ov (sv') wt v7 v8 v9 v10 (.int .i64 (k : Int)) v12 v13 v14 v15 r') wx)) :
    Code.wp Tryd.prog (sL (sR (sR (sR (sR xU))))) Q (Fz w v0 v3 ov (.slice sa st.length sc) wt v7 v8 v9 v10 (.int .i64 (k : Int)) v12 v13 v14 v15 r) wr := by
  obtain ⟨i0, hi0, hz0, hz1, hz2⟩ := info_parts infoE
  have hBs : w.heap.size ≤ wr.heap.size := M.out.bel.size
  have E3 := Hid.mk (M.out.al (.cells (⟨k, 0, 0⟩ : Ent).cells.toArray 89)).e
  revert r
  refine @elim_out 357 _ ?_
  iterate 357 (intro _)
  show Code.wp _ _ _ _ _
  conv => arg 2; dsimp only [xU, xNL, xW, xX, xL, x0, Tryd.f27, Option.getD, sR, sL, cT, cF, bk, lpo]
  conv => arg 4; dsimp only [Fz]
  go_wp2_with (first | (at_builtin; go_must (refine wpList_append_own_at _ rfl _ _ 80 rfl w.heap.size 89 i0 (.agg #[.int .i64 0, .int .i64 0, .int .i64 0]) 3 24 Tryd.underlying80 hi0 hz0 hz1 hz2 rfl (by decide) _ _ _ rfl E3.out ⟨wr.heap.size, 0, none⟩ 1 1 (⟨k, 0, 0⟩ : Ent).cells rfl rfl (newsE wr ⟨k, 0, 0⟩ _ rfl) (oneE _) (by unfold maxLen; omega) (by have := M.out.bel.size; omega) (by simp; omega) ?_)) | (refine wpList_build1 rfl 80 89 _ rfl i0 _ Tryd.underlying80 hi0 hz0 3 hz1 (⟨k, 0, 0⟩ : Ent).cells rfl (fillE _ _ _) (by decide) (by decide) ?_))
  intro v' w4 hown hgrow _ hat
  have M4 := Hid.mk ((M.out.al (.cells (⟨k, 0, 0⟩ : Ent).cells.toArray 89)).push (e := ⟨k, 0, 0⟩) hown hgrow)
  clear hown hgrow hat E3 M
  refine Hid.out ?_
  refine Lib.hid ?_
  go_wp2_with fail
  refine hn.out _ _ _ ?_ M4.out
  rfl
theorem push38 {g N c a i o : Nat} {w wr : World} {st : List Ent} {out : List Po} {Q : Exit → Act → World → Prop} {v0 v3 ov wt v7 v8 v9 v10 v11 v12 v13 v14 v15 : Value} {r : List Value} (hr : r.length = 357) {sa : Option Addr} {sc : Nat} (M : Hid (Mz g N c a w (i : Int) (o : Int) (.slice sa st.length sc) st ov out wr)) (hl : st.length ≤ 100000)  (hn : Hid (∀ r' sv' wx, r'.length = 357 → Mz g N c a w (i : Int) (o : Int) sv' (⟨4, 0, 0⟩ :: st) ov out wx → Q .normal (Fz w v0 v3 ov (sv') wt v7 v8 v9 v10 v11 v12 v13 v14 v15 r') wx)) :
    Code.wp Tryd.prog (sL (sR xP)) Q (Fz w v0 v3 ov (.slice sa st.length sc) wt v7 v8 v9 v10 v11 v12 v13 v14 v15 r) wr := by
  obtain ⟨i0, hi0, hz0, hz1, hz2⟩ := info_parts infoE
  have hBs : w.heap.size ≤ wr.heap.size := M.out.bel.size
  have E3 := Hid.mk (M.out.al (.cells (⟨4, 0, 0⟩ : Ent).cells.toArray 89)).e
  revert r
  refine @elim_out 357 _ ?_
  iterate 357 (intro _)
  show Code.wp _ _ _ _ _
  conv => arg 2; dsimp only [xP, xPO, xNL, xW, xX, xL, x0, Tryd.f27, Option.getD, sR, sL, cT, cF, bk, lpo]
  conv => arg 4; dsimp only [Fz]
  go_wp2_with (first | (at_builtin; go_must (refine wpList_append_own_at _ rfl _ _ 80 rfl w.heap.size 89 i0 (.agg #[.int .i64 0, .int .i64 0, .int .i64 0]) 3 24 Tryd.underlying80 hi0 hz0 hz1 hz2 rfl (by decide) _ _ _ rfl E3.out ⟨wr.heap.size, 0, none⟩ 1 1 (⟨4, 0, 0⟩ : Ent).cells rfl rfl (newsE wr ⟨4, 0, 0⟩ _ rfl) (oneE _) (by unfold maxLen; omega) (by have := M.out.bel.size; omega) (by simp; omega) ?_)) | (refine wpList_build1 rfl 80 89 _ rfl i0 _ Tryd.underlying80 hi0 hz0 3 hz1 (⟨4, 0, 0⟩ : Ent).cells rfl (fillE _ _ _) (by decide) (by decide) ?_))
  intro v' w4 hown hgrow _ hat
  have M4 := Hid.mk ((M.out.al (.cells (⟨4, 0, 0⟩ : Ent).cells.toArray 89)).push (e := ⟨4, 0, 0⟩) hown hgrow)
  clear hown hgrow hat E3 M
  refine Hid.out ?_
  refine Lib.hid ?_
  go_wp2_with fail
  refine hn.out _ _ _ ?_ M4.out
  rfl
theorem push71 {g N c a i o : Nat} {w wr : World} {st : List Ent} {out : List Po} {Q : Exit → Act → World → Prop} {v0 v3 ov wt v7 v8 v9 v10 v11 v12 v14 v15 : Value} {r : List Value} (hr : r.length = 357) {sa : Option Addr} {sc : Nat} (M : Hid (Mz g N c a w (i : Int) (o : Int) (.slice sa st.length sc) st ov out wr)) (hl : st.length ≤ 100000) {bz : Int} (hn : Hid (∀ r' sv' wx, r'.length = 357 → Mz g N c a w (i : Int) (o : Int) sv' (⟨3, bz, 0⟩ :: st) ov out wx → Q .normal (Fz w v0 v3 ov (sv') wt v7 v8 v9 v10 v11 v12 (.int .i64 bz) v14 v15 r') wx)) :
    Code.wp Tryd.prog (sL (sR (sR (sR (sR xBI))))) Q (Fz w v0 v3 ov (.slice sa st.length sc) wt v7 v8 v9 v10 v11 v12 (.int .i64 bz) v14 v15 r) wr := by
  obtain ⟨i0, hi0, hz0, hz1, hz2⟩ := info_parts infoE
  have hBs : w.heap.size ≤ wr.heap.size := M.out.bel.size
  have E3 := Hid.mk (M.out.al (.cells (⟨3, bz, 0⟩ : Ent).cells.toArray 89)).e
  revert r
  refine @elim_out 357 _ ?_
  iterate 357 (intro _)
  show Code.wp _ _ _ _ _
  conv => arg 2; dsimp only [xBI, xN, xX, xL, x0, Tryd.f27, Option.getD, sR, sL, cT, cF, bk, lpo]
  conv => arg 4; dsimp only [Fz]
  go_wp2_with (first | (at_builtin; go_must (refine wpList_append_own_at _ rfl _ _ 80 rfl w.heap.size 89 i0 (.agg #[.int .i64 0, .int .i64 0, .int .i64 0]) 3 24 Tryd.underlying80 hi0 hz0 hz1 hz2 rfl (by decide) _ _ _ rfl E3.out ⟨wr.heap.size, 0, none⟩ 1 1 (⟨3, bz, 0⟩ : Ent).cells rfl rfl (newsE wr ⟨3, bz, 0⟩ _ rfl) (oneE _) (by unfold maxLen; omega) (by have := M.out.bel.size; omega) (by simp; omega) ?_)) | (refine wpList_build1 rfl 80 89 _ rfl i0 _ Tryd.underlying80 hi0 hz0 3 hz1 (⟨3, bz, 0⟩ : Ent).cells rfl (fillE _ _ _) (by decide) (by decide) ?_))
  intro v' w4 hown hgrow _ hat
  have M4 := Hid.mk ((M.out.al (.cells (⟨3, bz, 0⟩ : Ent).cells.toArray 89)).push (e := ⟨3, bz, 0⟩) hown hgrow)
  clear hown hgrow hat E3 M
  refine Hid.out ?_
  refine Lib.hid ?_
  go_wp2_with fail
  refine hn.out _ _ _ ?_ M4.out
  rfl
theorem push55 {g N c a i o : Nat} {w wr : World} {st : List Ent} {out : List Po} {Q : Exit → Act → World → Prop} {v0 v3 ov wt v7 v8 v9 v10 v11 v13 v14 v15 : Value} {r : List Value} (hr : r.length = 357) {sa : Option Addr} {sc : Nat} (M : Hid (Mz g N c a w (i : Int) (o : Int) (.slice sa st.length sc) st ov out wr)) (hl : st.length ≤ 100000) {bz : Int} {k be : Nat} (HBE : Hid (wr.heap[be]? = some (.cells #[.int .i64 5, .int .i64 bz, .int .i64 (k : Int)] 89))) (hn : Hid (∀ r' sv' wx, r'.length = 357 → Mz g N c a w (i : Int) (o : Int) sv' (⟨5, bz, k⟩ :: st) ov out wx → Q .normal (Fz w v0 v3 ov (sv') wt v7 v8 v9 v10 v11 (.pointer (some ⟨be, 0, none⟩)) v13 v14 v15 r') wx)) :
    Code.wp Tryd.prog (sL (sR (sR (sR (sR (sR (sR (sR (sR xCA))))))))) Q (Fz w v0 v3 ov (.slice sa st.length sc) wt v7 v8 v9 v10 v11 (.pointer (some ⟨be, 0, none⟩)) v13 v14 v15 r) wr := by
  obtain ⟨i0, hi0, hz0, hz1, hz2⟩ := info_parts infoE
  have hBs : w.heap.size ≤ wr.heap.size := M.out.bel.size
  have E3 := Hid.mk (M.out.al (.cells (⟨5, bz, k⟩ : Ent).cells.toArray 89)).e
  have q0 := (blk_cell HBE.out 0).trans rfl
  have q1 := (blk_cell HBE.out 1).trans rfl
  have q2 := (blk_cell HBE.out 2).trans rfl
  revert r
  refine @elim_out 357 _ ?_
  iterate 357 (intro _)
  show Code.wp _ _ _ _ _
  conv => arg 2; dsimp only [xCA, xCL, xPO, xNL, xW, xX, xL, x0, Tryd.f27, Option.getD, sR, sL, cT, cF, bk, lpo]
  conv => arg 4; dsimp only [Fz]
  go_wp2_with (first | (at_builtin; go_must (refine wpList_append_own_at _ rfl _ _ 80 rfl w.heap.size 89 i0 (.agg #[.int .i64 0, .int .i64 0, .int .i64 0]) 3 24 Tryd.underlying80 hi0 hz0 hz1 hz2 rfl (by decide) _ _ _ rfl E3.out ⟨wr.heap.size, 0, none⟩ 1 1 (⟨5, bz, k⟩ : Ent).cells rfl rfl (newsE wr ⟨5, bz, k⟩ _ rfl) (oneE _) (by unfold maxLen; omega) (by have := M.out.bel.size; omega) (by simp; omega) ?_)) | (refine wpList_build1 rfl 80 89 _ rfl i0 _ Tryd.underlying80 hi0 hz0 3 hz1 (⟨5, bz, k⟩ : Ent).cells rfl (fillE _ _ _) (by decide) (by decide) ?_))
  intro v' w4 hown hgrow _ hat
  have M4 := Hid.mk ((M.out.al (.cells (⟨5, bz, k⟩ : Ent).cells.toArray 89)).push (e := ⟨5, bz, k⟩) hown hgrow)
  clear hown hgrow hat E3 M
  refine Hid.out ?_
  refine Lib.hid ?_
  go_wp2_with fail
  refine hn.out _ _ _ ?_ M4.out
  rfl
end Go.Proofs.YtfoigigbggickaaDoor.Par
