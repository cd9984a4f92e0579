import Derived.Test.YtfoigigbggickaaDoorPq27
namespace Go.Proofs.YtfoigigbggickaaDoor.Par
open Go Go.RowKit Go.Proofs.YtfoigigbggickaaDoor.Mem Go.Proofs.YtfoigigbggickaaDoor.Syn Go.Proofs.YtfoigigbggickaaDoor.Parse
set_option linter.unusedVariables false
set_option linter.unusedSimpArgs false
set_option maxHeartbeats 6400000
set_option maxRecDepth 1000000
attribute [local go_sem ↓] Go.wp_at_zero Go.wp_at_succ
theorem top4A {g N c a i o : Nat} {w wr : World} {st : List Ent} {out : List Po} {Q : Exit → Act → World → Prop} {v0 v3 ov sv wt v7 v8 v9 v10 v11 v12 v13 v14 v15 : Value} {r : List Value} (hr : r.length = 357) {A B : Code} (M : Hid (Mz g N c a w (i : Int) (o : Int) sv st ov out wr))  (hn : Hid (∀ r', r'.length = 357 → Code.wp Tryd.prog A Q (Fz w v0 v3 ov sv wt v7 v8 v9 v10 v11 v12 v13 v14 v15 r') wr)) :
    Code.wp Tryd.prog (.seq (sL (sL xL)) (.cond (.tmp 20) A B)) Q (Fz w v0 v3 ov sv wt v7 v8 v9 v10 v11 v12 v13 v14 v15 r) wr := by
  have b3 := (blk_cell M.out.b 3).trans rfl
  revert r
  refine @elim_out 357 _ ?_
  iterate 357 (intro _)
  show Code.wp _ _ _ _ _
  conv => arg 2; dsimp only [xL, x0, Tryd.f27, Option.getD, sR, sL, cT, cF, bk, lpo]
  conv => arg 4; dsimp only [Fz]
  go_wp2_with fail
  refine hn.out _ ?_
  rfl
theorem tok5 {t : List UInt8} {g N c a i o : Nat} {w wr : World} {st : List Ent} {out : List Po} {Q : Exit → Act → World → Prop} {v0 v3 ov sv wt v7 v8 v9 v10 v11 v12 v13 v14 v15 : Value} {r : List Value} (hr : r.length = 357) {x : Tk} (hx : Hid (x = tkT t i)) (hT : Hid (Tq t N g w)) (hN5 : N ≤ 100000) (hi : i < N) (M : Hid (Mz g N c a w (i : Int) (o : Int) sv st ov out wr)) (hn : Hid (∀ r' bt wx, r'.length = 357 → Below wr.heap.size wr wx → Mz g N c a w (i : Int) (o : Int) sv st ov out wx → Tb w bt #[.int .i64 (kS x), .int .i64 x.v, .string ⟨(wS x).toArray⟩, .int .i64 (x.at' : Int)] 40 wx → Q .normal (Fz w v0 v3 ov sv wt (.pointer (some ⟨bt, 0, none⟩)) v8 v9 v10 v11 v12 v13 v14 v15 r') wx)) :
    Code.wp Tryd.prog (sL xX) Q (Fz w v0 v3 ov sv wt v7 v8 v9 v10 v11 v12 v13 v14 v15 r) wr := by
  have Q0 := hT.out.below M.out.bel
  have y0 := Q0.c0 i hi
  have y1 := Q0.c1 i hi
  have y2 := Q0.c2 i hi
  have y3 := Q0.c3 i hi
  rw [← hx.out] at y0 y1 y2 y3
  have hgl := lt_of_cell y0
  clear Q0
  have k0 : (0 : Int) ≤ (i : Int) := by omega
  have k1 : (i : Int) < (N : Int) := by omega
  have b0 := (blk_cell M.out.b 0).trans rfl
  have b1 := (blk_cell M.out.b 1).trans rfl
  revert r
  refine @elim_out 357 _ ?_
  iterate 357 (intro _)
  show Code.wp _ _ _ _ _
  conv => arg 2; dsimp only [xX, xL, x0, Tryd.f27, Option.getD, sR, sL, cT, cF, bk, lpo]
  conv => arg 4; dsimp only [Fz]
  go_wp2_with fail
  refine hn.out _ _ _ ?_ (below_alloc' (Below.refl _ _) _) (M.out.al _) (M.out.tb _ _)
  rfl
theorem kind6A {w wr : World} {Q : Exit → Act → World → Prop} {v0 v3 ov sv wt v8 v9 v10 v11 v12 v13 v14 v15 : Value} {r : List Value} (hr : r.length = 357) {A B : Code} {x : Tk} {bt : Nat} (h51 : x.k ≤ 51) (T1 : Hid (Tb w bt #[.int .i64 (kS x), .int .i64 x.v, .string ⟨(wS x).toArray⟩, .int .i64 (x.at' : Int)] 40 wr)) (hk : 50 ≤ x.k) (hn : Hid (∀ r', r'.length = 357 → Code.wp Tryd.prog A Q (Fz w v0 v3 ov sv wt (.pointer (some ⟨bt, 0, none⟩)) v8 v9 v10 v11 v12 v13 v14 v15 r') wr)) :
    Code.wp Tryd.prog (.seq (sL (sL (sR xX))) (.cond (.tmp 29) A B)) Q (Fz w v0 v3 ov sv wt (.pointer (some ⟨bt, 0, none⟩)) v8 v9 v10 v11 v12 v13 v14 v15 r) wr := by
  have t0 := (blk_cell T1.out.b 0).trans rfl
  have h1 : (4 : Int) < kS x := by rcases kS_le x with h | h; exact h.2 hk; omega
  clear hk
  revert r
  refine @elim_out 357 _ ?_
  iterate 357 (intro _)
  show Code.wp _ _ _ _ _
  conv => arg 2; dsimp only [xX, xL, x0, Tryd.f27, Option.getD, sR, sL, cT, cF, bk, lpo]
  conv => arg 4; dsimp only [Fz]
  go_wp2_with fail
  refine hn.out _ ?_
  rfl
theorem kind6B {w wr : World} {Q : Exit → Act → World → Prop} {v0 v3 ov sv wt v8 v9 v10 v11 v12 v13 v14 v15 : Value} {r : List Value} (hr : r.length = 357) {A B : Code} {x : Tk} {bt : Nat} (h51 : x.k ≤ 51) (T1 : Hid (Tb w bt #[.int .i64 (kS x), .int .i64 x.v, .string ⟨(wS x).toArray⟩, .int .i64 (x.at' : Int)] 40 wr)) (hk : x.k < 50) (hn : Hid (∀ r', r'.length = 357 → Code.wp Tryd.prog B Q (Fz w v0 v3 ov sv wt (.pointer (some ⟨bt, 0, none⟩)) v8 v9 v10 v11 v12 v13 v14 v15 r') wr)) :
    Code.wp Tryd.prog (.seq (sL (sL (sR xX))) (.cond (.tmp 29) A B)) Q (Fz w v0 v3 ov sv wt (.pointer (some ⟨bt, 0, none⟩)) v8 v9 v10 v11 v12 v13 v14 v15 r) wr := by
  have t0 := (blk_cell T1.out.b 0).trans rfl
  have h1 : decide ((4 : Int) < kS x) = false := by simp; rcases kS_le x with h | h; (have := mt h.1 (by omega); omega); omega
  clear hk
  revert r
  refine @elim_out 357 _ ?_
  iterate 357 (intro _)
  show Code.wp _ _ _ _ _
  conv => arg 2; dsimp only [xX, xL, x0, Tryd.f27, Option.getD, sR, sL, cT, cF, bk, lpo]
  conv => arg 4; dsimp only [Fz]
  go_wp2_with fail
  refine hn.out _ ?_
  rfl
theorem want8A {w wr : World} {Q : Exit → Act → World → Prop} {v0 v3 ov sv v7 v8 v9 v10 v11 v12 v13 v14 v15 : Value} {r : List Value} (hr : r.length = 357) {A B : Code}   (hn : Hid (∀ r', r'.length = 357 → Code.wp Tryd.prog A Q (Fz w v0 v3 ov sv (.bool true) v7 v8 v9 v10 v11 v12 v13 v14 v15 r') wr)) :
    Code.wp Tryd.prog (.seq (sL (sR (sR xX))) (.cond (.tmp 33) A B)) Q (Fz w v0 v3 ov sv (.bool true) v7 v8 v9 v10 v11 v12 v13 v14 v15 r) wr := by
  revert r
  refine @elim_out 357 _ ?_
  iterate 357 (intro _)
  show Code.wp _ _ _ _ _
  conv => arg 2; dsimp only [xX, xL, x0, Tryd.f27, Option.getD, sR, sL, cT, cF, bk, lpo]
  conv => arg 4; dsimp only [Fz]
  go_wp2_with fail
  refine hn.out _ ?_
  rfl
theorem leaf10A {w wr : World} {Q : Exit → Act → World → Prop} {v0 v3 ov sv wt v7 v9 v10 v11 v12 v13 v14 v15 : Value} {r : List Value} (hr : r.length = 357) {A B : Code}   (hn : Hid (∀ r', r'.length = 357 → Code.wp Tryd.prog A Q (Fz w v0 v3 ov sv wt v7 (.bool true) v9 v10 v11 v12 v13 v14 v15 r') wr)) :
    Code.wp Tryd.prog (.seq (sL (sR xW)) (.cond (.tmp 39) A B)) Q (Fz w v0 v3 ov sv wt v7 (.bool true) v9 v10 v11 v12 v13 v14 v15 r) wr := by
  revert r
  refine @elim_out 357 _ ?_
  iterate 357 (intro _)
  show Code.wp _ _ _ _ _
  conv => arg 2; dsimp only [xW, xX, xL, x0, Tryd.f27, Option.getD, sR, sL, cT, cF, bk, lpo]
  conv => arg 4; dsimp only [Fz]
  go_wp2_with fail
  refine hn.out _ ?_
  rfl
theorem want8B {w wr : World} {Q : Exit → Act → World → Prop} {v0 v3 ov sv v7 v8 v9 v10 v11 v12 v13 v14 v15 : Value} {r : List Value} (hr : r.length = 357) {A B : Code}   (hn : Hid (∀ r', r'.length = 357 → Code.wp Tryd.prog B Q (Fz w v0 v3 ov sv (.bool false) v7 v8 v9 v10 v11 v12 v13 v14 v15 r') wr)) :
    Code.wp Tryd.prog (.seq (sL (sR (sR xX))) (.cond (.tmp 33) A B)) Q (Fz w v0 v3 ov sv (.bool false) v7 v8 v9 v10 v11 v12 v13 v14 v15 r) wr := by
  revert r
  refine @elim_out 357 _ ?_
  iterate 357 (intro _)
  show Code.wp _ _ _ _ _
  conv => arg 2; dsimp only [xX, xL, x0, Tryd.f27, Option.getD, sR, sL, cT, cF, bk, lpo]
  conv => arg 4; dsimp only [Fz]
  go_wp2_with fail
  refine hn.out _ ?_
  rfl
theorem leaf10B {w wr : World} {Q : Exit → Act → World → Prop} {v0 v3 ov sv wt v7 v9 v10 v11 v12 v13 v14 v15 : Value} {r : List Value} (hr : r.length = 357) {A B : Code}   (hn : Hid (∀ r', r'.length = 357 → Code.wp Tryd.prog B Q (Fz w v0 v3 ov sv wt v7 (.bool false) v9 v10 v11 v12 v13 v14 v15 r') wr)) :
    Code.wp Tryd.prog (.seq (sL (sR xW)) (.cond (.tmp 39) A B)) Q (Fz w v0 v3 ov sv wt v7 (.bool false) v9 v10 v11 v12 v13 v14 v15 r) wr := by
  revert r
  refine @elim_out 357 _ ?_
  iterate 357 (intro _)
  show Code.wp _ _ _ _ _
  conv => arg 2; dsimp only [xW, xX, xL, x0, Tryd.f27, Option.getD, sR, sL, cT, cF, bk, lpo]
  conv => arg 4; dsimp only [Fz]
  go_wp2_with fail
  refine hn.out _ ?_
  rfl
end Go.Proofs.YtfoigigbggickaaDoor.Par
namespace Go.Proofs.YtfoigigbggickaaDoor.Par
open Go Go.RowKit Go.Proofs.YtfoigigbggickaaDoor.Mem Go.Proofs.YtfoigigbggickaaDoor.Syn Go.Proofs.YtfoigigbggickaaDoor.Parse
set_option linter.unusedVariables false
set_option linter.unusedSimpArgs false
set_option maxHeartbeats 6400000
set_option maxRecDepth 1000000
attribute [local go_sem ↓] Go.wp_at_zero Go.wp_at_succ
theorem leaf9 {g N c a i o : Nat} {w wr : World} {st : List Ent} {out : List Po} {Q : Exit → Act → World → Prop} {v0 v3 ov sv wt v8 v9 v10 v11 v12 v13 v14 v15 : Value} {r : List Value} (hr : r.length = 357) {x : Tk} {bt : Nat} (hx : Hid (Tc x)) (M : Hid (Mz g N c a w (i : Int) (o : Int) sv st ov out wr)) (T1 : Hid (Tb w bt #[.int .i64 (kS x), .int .i64 x.v, .string ⟨(wS x).toArray⟩, .int .i64 (x.at' : Int)] 40 wr)) (hn : Hid (∀ r' bo wx, r'.length = 357 → Below wr.heap.size wr wx → wr.heap.size ≤ bo → Tb w bo (leafR x).2.cells.toArray 82 wx → Q .normal (Fz w v0 v3 ov sv wt (.pointer (some ⟨bt, 0, none⟩)) (.bool (leafR x).1) (.pointer (some ⟨bo, 0, none⟩)) v10 v11 v12 v13 v14 v15 r') wx)) :
    Code.wp Tryd.prog (sL xW) Q (Fz w v0 v3 ov sv wt (.pointer (some ⟨bt, 0, none⟩)) v8 v9 v10 v11 v12 v13 v14 v15 r) wr := by
  have CL := Hid.mk (leafS x hx.out wr)
  unfold tokV at CL
  obtain ⟨lb, hlb⟩ : ∃ b, b = (leafR x).1 := ⟨_, rfl⟩
  obtain ⟨lo, hlo⟩ : ∃ p, p = (leafR x).2 := ⟨_, rfl⟩
  rw [← hlb, ← hlo] at CL hn
  clear hlb hlo
  unfold opA at CL
  have t0 := (blk_cell T1.out.b 0).trans rfl
  have t1 := (blk_cell T1.out.b 1).trans rfl
  have t2 := (blk_cell T1.out.b 2).trans rfl
  have t3 := (blk_cell T1.out.b 3).trans rfl
  revert r
  refine @elim_out 357 _ ?_
  iterate 357 (intro _)
  show Code.wp _ _ _ _ _
  conv => arg 2; dsimp only [xW, xX, xL, x0, Tryd.f27, Option.getD, sR, sL, cT, cF, bk, lpo]
  conv => arg 4; dsimp only [Fz]
  go_wp2_with (go_at_call 41; go_must (refine CL.out.mono ?_; rintro e' w2 ⟨rfl, hb⟩))
  have M2 := Hid.mk (M.out.below hb)
  refine hn.out _ _ _ ?_ (below_alloc' hb _) hb.size (M2.out.tb _ _)
  rfl
end Go.Proofs.YtfoigigbggickaaDoor.Par
namespace Go.Proofs.YtfoigigbggickaaDoor.Par
open Go Go.RowKit Go.Proofs.YtfoigigbggickaaDoor.Mem Go.Proofs.YtfoigigbggickaaDoor.Syn Go.Proofs.YtfoigigbggickaaDoor.Parse
set_option linter.unusedVariables false
set_option linter.unusedSimpArgs false
set_option maxHeartbeats 6400000
set_option maxRecDepth 1000000
attribute [local go_sem ↓] Go.wp_at_zero Go.wp_at_succ
theorem top4e {g N c a i o : Nat} {w wr : World} {Q : Exit → Act → World → Prop} {v0 v3 ov sv wt v7 v8 v9 v10 v11 v12 v13 v14 v15 : Value} {r : List Value} (hr : r.length = 357) {A B : Code} {e : Int} (HB : Hid (wr.heap[w.heap.size]? = some (.cells #[.slice (some ⟨g, 0, none⟩) N c, .int .i64 (i : Int), .int .i64 (o : Int), .int .i64 e, .int .i64 (a : Int)] 38))) (he : e ≠ 0) (hn : Hid (∀ r', r'.length = 357 → Code.wp Tryd.prog B Q (Fz w v0 v3 ov sv wt v7 v8 v9 v10 v11 v12 v13 v14 v15 r') wr)) :
    Code.wp Tryd.prog (.seq (sL (sL xL)) (.cond (.tmp 20) A B)) Q (Fz w v0 v3 ov sv wt v7 v8 v9 v10 v11 v12 v13 v14 v15 r) wr := by
  have h1 : (e == 0) = false := by simpa using he
  clear he
  have b3 := (blk_cell HB.out 3).trans rfl
  revert r
  refine @elim_out 357 _ ?_
  iterate 357 (intro _)
  show Code.wp _ _ _ _ _
  conv => arg 2; dsimp only [xL, x0, Tryd.f27, Option.getD, sR, sL, cT, cF, bk, lpo]
  conv => arg 4; dsimp only [Fz]
  go_wp2_with fail
  refine hn.out _ ?_
  rfl
theorem ret91 {g N c a i o : Nat} {w wr : World} {Q : Exit → Act → World → Prop} {v0 v3 ov sv wt v7 v8 v9 v10 v11 v12 v13 v14 v15 : Value} {r : List Value} (hr : r.length = 357) {e : Int} (HB : Hid (wr.heap[w.heap.size]? = some (.cells #[.slice (some ⟨g, 0, none⟩) N c, .int .i64 (i : Int), .int .i64 (o : Int), .int .i64 e, .int .i64 (a : Int)] 38))) (HR : Hid (wr.heap[w.heap.size + 1]? = some (.cells #[.slice none 0 0, .int .i64 0, .int .i64 0, .int .i64 0, .int .i64 0] 38))) (hq : Hid (∀ a' wx, bodyPost Tryd.prog Tryd.f27 (fun x w' => x = .returned (.tuple #[.agg #[.slice (some ⟨g, 0, none⟩) N c, .int .i64 (i : Int), .int .i64 (o : Int), .int .i64 e, .int .i64 (a : Int)], ov]) ∧ ∀ L, Kr w.heap.size w (w.heap.size + 1) ov L wr → Kr w.heap.size w (w.heap.size + 1) ov L w') .ret a' wx → Q .ret a' wx)) :
    Code.wp Tryd.prog (sR (sR (sR (sR (sR x0))))) Q (Fz w v0 v3 ov sv wt v7 v8 v9 v10 v11 v12 v13 v14 v15 r) wr := by
  have b0 := (blk_cell HB.out 0).trans rfl
  have b1 := (blk_cell HB.out 1).trans rfl
  have b2 := (blk_cell HB.out 2).trans rfl
  have b3 := (blk_cell HB.out 3).trans rfl
  have b4 := (blk_cell HB.out 4).trans rfl
  have r0 := (blk_cell HR.out 0).trans rfl
  have r1 := (blk_cell HR.out 1).trans rfl
  have r2 := (blk_cell HR.out 2).trans rfl
  have r3 := (blk_cell HR.out 3).trans rfl
  have r4 := (blk_cell HR.out 4).trans rfl
  have fr0 := blk_unfrozen HR.out 0
  have fr1 := blk_unfrozen HR.out 1
  have fr2 := blk_unfrozen HR.out 2
  have fr3 := blk_unfrozen HR.out 3
  have fr4 := blk_unfrozen HR.out 4
  revert r
  refine @elim_out 357 _ ?_
  iterate 357 (intro _)
  show Code.wp _ _ _ _ _
  conv => arg 2; dsimp only [x0, Tryd.f27, Option.getD, sR, sL, cT, cF, bk, lpo]
  conv => arg 4; dsimp only [Fz]
  go_wp2_with fail
  refine hq.out _ _ ?_
  refine bodyPost_ret (by simp [results, Tryd.results27, go_sem, r0, r1, r2, r3, r4]; try rfl) rfl ?_
  exact ⟨rfl, fun L K => ((((K.set (Nat.le_succ _) 0 _).set (Nat.le_succ _) 1 _).set (Nat.le_succ _) 2 _).set (Nat.le_succ _) 3 _).set (Nat.le_succ _) 4 _⟩
theorem start0 {g N c i o a : Nat} {e : Int} {w : World} {Q : Exit → Act → World → Prop} {D : Code} {r : List Value} (hr : r.length = 372) (hn : Hid (∀ v0 v7 v8 v9 v10 v11 v12 v13 v14 v15 r', r'.length = 357 → Code.wp Tryd.prog D Q (Fz w v0 (.slice none 0 0) (.slice (some ⟨w.heap.size + 1 + 1, 0, none⟩) 0 0) (.slice (some ⟨w.heap.size + 1 + 1 + 1, 0, none⟩) 0 0) (.bool true) v7 v8 v9 v10 v11 v12 v13 v14 v15 r') ((((w.alloc (.cells #[.slice (some ⟨g, 0, none⟩) N c, .int .i64 ((i : Int)), .int .i64 ((o : Int)), .int .i64 e, .int .i64 (a : Int)] 38)).alloc (.cells #[.slice none 0 0, .int .i64 0, .int .i64 0, .int .i64 0, .int .i64 0] 38)).alloc (.cells #[] 82)).alloc (.cells #[] 89)))) :
    Code.wp Tryd.prog (.seq (sL x0) (.seq (sL (sR x0)) (.seq (sL (sR (sR x0))) (.seq (sL (sR (sR (sR x0)))) D)))) Q { tmps := (Value.agg #[.slice (some ⟨g, 0, none⟩) N c, .int .i64 (i : Int), .int .i64 (o : Int), .int .i64 e, .int .i64 (a : Int)] :: r).toArray, defers := [] } w := by
  revert r
  refine @elim_out 372 _ ?_
  iterate 372 (intro _)
  show Code.wp _ _ _ _ _
  conv => arg 2; dsimp only [x0, Tryd.f27, Option.getD, sR, sL, cT, cF, bk, lpo]
  conv =>
    arg 4
    dsimp only
  obtain ⟨i0, hi0, hz0, hz1, hz2⟩ := info_parts infoE
  obtain ⟨j0, hj0, zj0, zj1, zj2⟩ := info_parts infoO
  go_wp2_with fail
  refine hn.out _ _ _ _ _ _ _ _ _ _ _ ?_
  rfl
end Go.Proofs.YtfoigigbggickaaDoor.Par
