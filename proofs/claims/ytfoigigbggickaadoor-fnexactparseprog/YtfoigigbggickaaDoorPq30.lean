import Derived.Test.YtfoigigbggickaaDoorPq27
import Derived.Test.YtfoigigbggickaaDoorPq28
import Derived.Test.YtfoigigbggickaaDoorPq29
namespace Go.Proofs.YtfoigigbggickaaDoor.Par
open Go Go.RowKit Go.Proofs.YtfoigigbggickaaDoor.Mem Go.Proofs.YtfoigigbggickaaDoor.Syn Go.Proofs.YtfoigigbggickaaDoor.Parse
set_option linter.unusedVariables false
set_option linter.unusedSimpArgs false
set_option maxHeartbeats 6400000
set_option maxRecDepth 1000000
attribute [local go_sem ↓] Go.wp_at_zero Go.wp_at_succ
theorem dr22 {g N c a i o : Nat} {w wr : World} {st : List Ent} {out : List Po} {Q : Exit → Act → World → Prop} {v0 v3 ov wt v7 v8 v9 v10 v11 v12 v13 v14 v15 : Value} {r : List Value} (hr : r.length = 357) {sa : Option Addr} {sc : Nat} (M : Hid (Mz g N c a w (i : Int) (o : Int) (.slice sa st.length sc) st ov out wr)) (hl : st.length + out.length ≤ 100000)  (hn : Hid (∀ r' ov' wx, r'.length = 357 → Mz g N c a w (i : Int) (o : Int) (.slice sa (dr 6 st out).1.length sc) (dr 6 st out).1 ov' (dr 6 st out).2 wx → Q .normal (Fz w v0 v3 (ov') (.slice sa (dr 6 st out).1.length sc) wt v7 v8 v9 v10 v11 v12 v13 v14 v15 r') wx)) :
    Code.wp Tryd.prog (sL (sR (sR (sR (sR (sR xLF)))))) Q (Fz w v0 v3 ov (.slice sa st.length sc) wt v7 v8 v9 v10 v11 v12 v13 v14 v15 r) wr := by
  have CD := Hid.mk (drainS (6) (6) (by first | rfl | assumption) (by first | omega | decide) w.heap.size sa st.length sc st out ov wr rfl M.out.e M.out.o M.out.bel.size hl)
  revert r
  refine @elim_out 357 _ ?_
  iterate 357 (intro _)
  show Code.wp _ _ _ _ _
  conv => arg 2; dsimp only [xLF, xW, xX, xL, x0, Tryd.f27, Option.getD, sR, sL, cT, cF, bk, lpo]
  conv => arg 4; dsimp only [Fz]
  go_wp2_with (go_at_call 43; go_must (refine CD.out.mono ?_; rintro e' w2 ⟨ov', rfl, hE, hO, hG⟩))
  refine hn.out _ _ _ ?_ (M.out.gx hG hE hO)
  rfl
theorem dr65 {g N c a i o : Nat} {w wr : World} {st : List Ent} {out : List Po} {Q : Exit → Act → World → Prop} {v0 v3 ov wt v7 v8 v9 v10 v11 v12 v13 v14 v15 : Value} {r : List Value} (hr : r.length = 357) {sa : Option Addr} {sc : Nat} (M : Hid (Mz g N c a w (i : Int) (o : Int) (.slice sa st.length sc) st ov out wr)) (hl : st.length + out.length ≤ 100000)  (hn : Hid (∀ r' ov' wx, r'.length = 357 → Mz g N c a w (i : Int) (o : Int) (.slice sa (dr 4 st out).1.length sc) (dr 4 st out).1 ov' (dr 4 st out).2 wx → Q .normal (Fz w v0 v3 (ov') (.slice sa (dr 4 st out).1.length sc) wt v7 v8 v9 v10 v11 v12 v13 v14 v15 r') wx)) :
    Code.wp Tryd.prog (sL (cT (sR (sL (sR xBI))))) Q (Fz w v0 v3 ov (.slice sa st.length sc) wt v7 v8 v9 v10 v11 v12 v13 v14 v15 r) wr := by
  have CD := Hid.mk (drainS (4) (4) (by first | rfl | assumption) (by first | omega | decide) w.heap.size sa st.length sc st out ov wr rfl M.out.e M.out.o M.out.bel.size hl)
  revert r
  refine @elim_out 357 _ ?_
  iterate 357 (intro _)
  show Code.wp _ _ _ _ _
  conv => arg 2; dsimp only [xBI, xN, xX, xL, x0, Tryd.f27, Option.getD, sR, sL, cT, cF, bk, lpo]
  conv => arg 4; dsimp only [Fz]
  go_wp2_with (go_at_call 43; go_must (refine CD.out.mono ?_; rintro e' w2 ⟨ov', rfl, hE, hO, hG⟩))
  refine hn.out _ _ _ ?_ (M.out.gx hG hE hO)
  rfl
theorem dr76 {g N c a i o : Nat} {w wr : World} {st : List Ent} {out : List Po} {Q : Exit → Act → World → Prop} {v0 v3 ov wt v7 v8 v9 v10 v11 v12 v13 v14 v15 : Value} {r : List Value} (hr : r.length = 357) {sa : Option Addr} {sc : Nat} (M : Hid (Mz g N c a w (i : Int) (o : Int) (.slice sa st.length sc) st ov out wr)) (hl : st.length + out.length ≤ 100000)  (hn : Hid (∀ r' ov' wx, r'.length = 357 → Mz g N c a w (i : Int) (o : Int) (.slice sa (dr 1 st out).1.length sc) (dr 1 st out).1 ov' (dr 1 st out).2 wx → Q .normal (Fz w v0 v3 (ov') (.slice sa (dr 1 st out).1.length sc) wt v7 v8 v9 v10 v11 v12 v13 v14 v15 r') wx)) :
    Code.wp Tryd.prog (sL (cT (sR xNB))) Q (Fz w v0 v3 ov (.slice sa st.length sc) wt v7 v8 v9 v10 v11 v12 v13 v14 v15 r) wr := by
  have CD := Hid.mk (drainS (1) (1) (by first | rfl | assumption) (by first | omega | decide) w.heap.size sa st.length sc st out ov wr rfl M.out.e M.out.o M.out.bel.size hl)
  revert r
  refine @elim_out 357 _ ?_
  iterate 357 (intro _)
  show Code.wp _ _ _ _ _
  conv => arg 2; dsimp only [xNB, xN, xX, xL, x0, Tryd.f27, Option.getD, sR, sL, cT, cF, bk, lpo]
  conv => arg 4; dsimp only [Fz]
  go_wp2_with (go_at_call 43; go_must (refine CD.out.mono ?_; rintro e' w2 ⟨ov', rfl, hE, hO, hG⟩))
  refine hn.out _ _ _ ?_ (M.out.gx hG hE hO)
  rfl
theorem dr79 {g N c a i o : Nat} {w wr : World} {st : List Ent} {out : List Po} {Q : Exit → Act → World → Prop} {v0 v3 ov wt v7 v8 v9 v10 v11 v12 v13 v14 v15 : Value} {r : List Value} (hr : r.length = 357) {sa : Option Addr} {sc : Nat} (M : Hid (Mz g N c a w (i : Int) (o : Int) (.slice sa st.length sc) st ov out wr)) (hl : st.length + out.length ≤ 100000)  (hn : Hid (∀ r' ov' wx, r'.length = 357 → Mz g N c a w (i : Int) (o : Int) (.slice sa (dr 1 st out).1.length sc) (dr 1 st out).1 ov' (dr 1 st out).2 wx → Q .normal (Fz w v0 v3 (ov') (.slice sa (dr 1 st out).1.length sc) wt v7 v8 v9 v10 v11 v12 v13 v14 v15 r') wx)) :
    Code.wp Tryd.prog (sL xCO) Q (Fz w v0 v3 ov (.slice sa st.length sc) wt v7 v8 v9 v10 v11 v12 v13 v14 v15 r) wr := by
  have CD := Hid.mk (drainS (1) (1) (by first | rfl | assumption) (by first | omega | decide) w.heap.size sa st.length sc st out ov wr rfl M.out.e M.out.o M.out.bel.size hl)
  revert r
  refine @elim_out 357 _ ?_
  iterate 357 (intro _)
  show Code.wp _ _ _ _ _
  conv => arg 2; dsimp only [xCO, xNC, xNB, xN, xX, xL, x0, Tryd.f27, Option.getD, sR, sL, cT, cF, bk, lpo]
  conv => arg 4; dsimp only [Fz]
  go_wp2_with (go_at_call 43; go_must (refine CD.out.mono ?_; rintro e' w2 ⟨ov', rfl, hE, hO, hG⟩))
  refine hn.out _ _ _ ?_ (M.out.gx hG hE hO)
  rfl
theorem dr84 {g N c a i o : Nat} {w wr : World} {st : List Ent} {out : List Po} {Q : Exit → Act → World → Prop} {v0 v3 ov wt v7 v8 v9 v10 v11 v12 v13 v14 v15 : Value} {r : List Value} (hr : r.length = 357) {sa : Option Addr} {sc : Nat} (M : Hid (Mz g N c a w (i : Int) (o : Int) (.slice sa st.length sc) st ov out wr)) (hl : st.length + out.length ≤ 100000)  (hn : Hid (∀ r' ov' wx, r'.length = 357 → Mz g N c a w (i : Int) (o : Int) (.slice sa (dr 1 st out).1.length sc) (dr 1 st out).1 ov' (dr 1 st out).2 wx → Q .normal (Fz w v0 v3 (ov') (.slice sa (dr 1 st out).1.length sc) wt v7 v8 v9 v10 v11 v12 v13 v14 v15 r') wx)) :
    Code.wp Tryd.prog (sL xCS) Q (Fz w v0 v3 ov (.slice sa st.length sc) wt v7 v8 v9 v10 v11 v12 v13 v14 v15 r) wr := by
  have CD := Hid.mk (drainS (1) (1) (by first | rfl | assumption) (by first | omega | decide) w.heap.size sa st.length sc st out ov wr rfl M.out.e M.out.o M.out.bel.size hl)
  revert r
  refine @elim_out 357 _ ?_
  iterate 357 (intro _)
  show Code.wp _ _ _ _ _
  conv => arg 2; dsimp only [xCS, xPC, xNC, xNB, xN, xX, xL, x0, Tryd.f27, Option.getD, sR, sL, cT, cF, bk, lpo]
  conv => arg 4; dsimp only [Fz]
  go_wp2_with (go_at_call 43; go_must (refine CD.out.mono ?_; rintro e' w2 ⟨ov', rfl, hE, hO, hG⟩))
  refine hn.out _ _ _ ?_ (M.out.gx hG hE hO)
  rfl
theorem dr89 {g N c a i o : Nat} {w wr : World} {st : List Ent} {out : List Po} {Q : Exit → Act → World → Prop} {v0 v3 ov wt v7 v8 v9 v10 v11 v12 v13 v14 v15 : Value} {r : List Value} (hr : r.length = 357) {sa : Option Addr} {sc : Nat} (M : Hid (Mz g N c a w (i : Int) (o : Int) (.slice sa st.length sc) st ov out wr)) (hl : st.length + out.length ≤ 100000)  (hn : Hid (∀ r' ov' wx, r'.length = 357 → Mz g N c a w (i : Int) (o : Int) (.slice sa (dr 6 st out).1.length sc) (dr 6 st out).1 ov' (dr 6 st out).2 wx → Q .normal (Fz w v0 v3 (ov') (.slice sa (dr 6 st out).1.length sc) wt v7 v8 v9 v10 v11 v12 v13 v14 v15 r') wx)) :
    Code.wp Tryd.prog (sR (sR (sR (sR xCS)))) Q (Fz w v0 v3 ov (.slice sa st.length sc) wt v7 v8 v9 v10 v11 v12 v13 v14 v15 r) wr := by
  have CD := Hid.mk (drainS (6) (6) (by first | rfl | assumption) (by first | omega | decide) w.heap.size sa st.length sc st out ov wr rfl M.out.e M.out.o M.out.bel.size hl)
  revert r
  refine @elim_out 357 _ ?_
  iterate 357 (intro _)
  show Code.wp _ _ _ _ _
  conv => arg 2; dsimp only [xCS, xPC, xNC, xNB, xN, xX, xL, x0, Tryd.f27, Option.getD, sR, sL, cT, cF, bk, lpo]
  conv => arg 4; dsimp only [Fz]
  go_wp2_with (go_at_call 43; go_must (refine CD.out.mono ?_; rintro e' w2 ⟨ov', rfl, hE, hO, hG⟩))
  refine hn.out _ _ _ ?_ (M.out.gx hG hE hO)
  rfl
theorem dr70 {g N c a i o : Nat} {w wr : World} {st : List Ent} {out : List Po} {Q : Exit → Act → World → Prop} {v0 v3 ov wt v7 v8 v9 v10 v11 v12 v13 v14 : Value} {r : List Value} (hr : r.length = 357) {sa : Option Addr} {sc : Nat} (M : Hid (Mz g N c a w (i : Int) (o : Int) (.slice sa st.length sc) st ov out wr)) (hl : st.length + out.length ≤ 100000) {s : Nat} (hs : s ≤ 6) (hn : Hid (∀ r' ov' wx, r'.length = 357 → Mz g N c a w (i : Int) (o : Int) (.slice sa (dr s st out).1.length sc) (dr s st out).1 ov' (dr s st out).2 wx → Q .normal (Fz w v0 v3 (ov') (.slice sa (dr s st out).1.length sc) wt v7 v8 v9 v10 v11 v12 v13 v14 (.int .i64 (s : Int)) r') wx)) :
    Code.wp Tryd.prog (sL (sR (sR (sR xBI)))) Q (Fz w v0 v3 ov (.slice sa st.length sc) wt v7 v8 v9 v10 v11 v12 v13 v14 (.int .i64 (s : Int)) r) wr := by
  have CD := Hid.mk (drainS (s) ((s : Int)) (by first | rfl | assumption) (by first | omega | decide) w.heap.size sa st.length sc st out ov wr rfl M.out.e M.out.o M.out.bel.size hl)
  revert r
  refine @elim_out 357 _ ?_
  iterate 357 (intro _)
  show Code.wp _ _ _ _ _
  conv => arg 2; dsimp only [xBI, xN, xX, xL, x0, Tryd.f27, Option.getD, sR, sL, cT, cF, bk, lpo]
  conv => arg 4; dsimp only [Fz]
  go_wp2_with (go_at_call 43; go_must (refine CD.out.mono ?_; rintro e' w2 ⟨ov', rfl, hE, hO, hG⟩))
  refine hn.out _ _ _ ?_ (M.out.gx hG hE hO)
  rfl
end Go.Proofs.YtfoigigbggickaaDoor.Par
namespace Go.Proofs.YtfoigigbggickaaDoor.Par
open Go Go.RowKit Go.Proofs.YtfoigigbggickaaDoor.Mem Go.Proofs.YtfoigigbggickaaDoor.Syn Go.Proofs.YtfoigigbggickaaDoor.Parse
set_option linter.unusedVariables false
set_option linter.unusedSimpArgs false
set_option maxHeartbeats 6400000
set_option maxRecDepth 1000000
attribute [local go_sem ↓] Go.wp_at_zero Go.wp_at_succ
theorem has15A {w wr : World} {Q : Exit → Act → World → Prop} {v0 v3 ov sv wt v7 v8 v10 v11 v12 v13 v14 v15 : Value} {r : List Value} (hr : r.length = 357) {A B : Code} {pk pv : Int} {pn : ByteArray} {bo : Nat} (HO : Hid (Tb w bo #[.int .i64 pk, .int .i64 pv, .string pn] 82 wr)) (hk : pk = 4) (hn : Hid (∀ r', r'.length = 357 → Code.wp Tryd.prog A Q (Fz w v0 v3 ov sv wt v7 v8 (.pointer (some ⟨bo, 0, none⟩)) v10 v11 v12 v13 v14 v15 r') wr)) :
    Code.wp Tryd.prog (.seq (sL (sL (sR (sR (sR xLF))))) (.cond (.tmp 61) A B)) Q (Fz w v0 v3 ov sv wt v7 v8 (.pointer (some ⟨bo, 0, none⟩)) v10 v11 v12 v13 v14 v15 r) wr := by
  have q0 := (blk_cell HO.out.b 0).trans rfl
  have h1 : (pk == 4) = true := by simp; omega
  clear hk
  revert r
  refine @elim_out 357 _ ?_
  iterate 357 (intro _)
  show Code.wp _ _ _ _ _
  conv => arg 2; dsimp only [xLF, xW, xX, xL, x0, Tryd.f27, Option.getD, sR, sL, cT, cF, bk, lpo]
  conv => arg 4; dsimp only [Fz]
  go_wp2_with fail
  refine hn.out _ ?_
  rfl
theorem has15B {w wr : World} {Q : Exit → Act → World → Prop} {v0 v3 ov sv wt v7 v8 v10 v11 v12 v13 v14 v15 : Value} {r : List Value} (hr : r.length = 357) {A B : Code} {pk pv : Int} {pn : ByteArray} {bo : Nat} (HO : Hid (Tb w bo #[.int .i64 pk, .int .i64 pv, .string pn] 82 wr)) (hk : pk ≠ 4 ∧ pk ≠ 5) (hn : Hid (∀ r', r'.length = 357 → Code.wp Tryd.prog B Q (Fz w v0 v3 ov sv wt v7 v8 (.pointer (some ⟨bo, 0, none⟩)) v10 v11 v12 v13 v14 v15 r') wr)) :
    Code.wp Tryd.prog (.seq (sL (sL (sR (sR (sR xLF))))) (.cond (.tmp 61) A B)) Q (Fz w v0 v3 ov sv wt v7 v8 (.pointer (some ⟨bo, 0, none⟩)) v10 v11 v12 v13 v14 v15 r) wr := by
  have q0 := (blk_cell HO.out.b 0).trans rfl
  have h1 : (pk == 4) = false := by simp; omega
  have h2 : (pk == 5) = false := by simp; omega
  clear hk
  revert r
  refine @elim_out 357 _ ?_
  iterate 357 (intro _)
  show Code.wp _ _ _ _ _
  conv => arg 2; dsimp only [xLF, xW, xX, xL, x0, Tryd.f27, Option.getD, sR, sL, cT, cF, bk, lpo]
  conv => arg 4; dsimp only [Fz]
  go_wp2_with fail
  refine hn.out _ ?_
  rfl
theorem skill15A {w wr : World} {Q : Exit → Act → World → Prop} {v0 v3 ov sv wt v7 v8 v10 v11 v12 v13 v14 v15 : Value} {r : List Value} (hr : r.length = 357) {A B : Code} {pk pv : Int} {pn : ByteArray} {bo : Nat} (HO : Hid (Tb w bo #[.int .i64 pk, .int .i64 pv, .string pn] 82 wr)) (hk : pk = 5) (hn : Hid (∀ r', r'.length = 357 → Code.wp Tryd.prog A Q (Fz w v0 v3 ov sv wt v7 v8 (.pointer (some ⟨bo, 0, none⟩)) v10 v11 v12 v13 v14 v15 r') wr)) :
    Code.wp Tryd.prog (.seq (sL (sL (sR (sR (sR xLF))))) (.cond (.tmp 61) A B)) Q (Fz w v0 v3 ov sv wt v7 v8 (.pointer (some ⟨bo, 0, none⟩)) v10 v11 v12 v13 v14 v15 r) wr := by
  have q0 := (blk_cell HO.out.b 0).trans rfl
  have h1 : (pk == 4) = false := by simp; omega
  have h2 : (pk == 5) = true := by simp; omega
  clear hk
  revert r
  refine @elim_out 357 _ ?_
  iterate 357 (intro _)
  show Code.wp _ _ _ _ _
  conv => arg 2; dsimp only [xLF, xW, xX, xL, x0, Tryd.f27, Option.getD, sR, sL, cT, cF, bk, lpo]
  conv => arg 4; dsimp only [Fz]
  go_wp2_with fail
  refine hn.out _ ?_
  rfl
theorem tok16 {t : List UInt8} {g N c a i o : Nat} {w wr : World} {st : List Ent} {out : List Po} {Q : Exit → Act → World → Prop} {v0 v3 ov sv wt v7 v8 v9 v10 v11 v12 v13 v14 v15 : Value} {r : List Value} (hr : r.length = 357) {y : Tk} (hx : Hid (y = tkT t i)) (hT : Hid (Tq t N g w)) (hN5 : N ≤ 100000) (hi : i < N) (M : Hid (Mz g N c a w (i : Int) (o : Int) sv st ov out wr)) (hn : Hid (∀ r' bt wx, r'.length = 357 → Below wr.heap.size wr wx → Mz g N c a w (i : Int) (o : Int) sv st ov out wx → Tb w bt #[.int .i64 (kS y), .int .i64 y.v, .string ⟨(wS y).toArray⟩, .int .i64 (y.at' : Int)] 40 wx → Q .normal (Fz w v0 v3 ov sv wt v7 v8 v9 (.pointer (some ⟨bt, 0, none⟩)) v11 v12 v13 v14 v15 r') wx)) :
    Code.wp Tryd.prog (sL xTG) Q (Fz w v0 v3 ov sv wt v7 v8 v9 v10 v11 v12 v13 v14 v15 r) wr := by
  have Q0 := hT.out.below M.out.bel
  have y0 := Q0.c0 i hi
  have y1 := Q0.c1 i hi
  have y2 := Q0.c2 i hi
  have y3 := Q0.c3 i hi
  rw [← hx.out] at y0 y1 y2 y3
  have hgl := lt_of_cell y0
  clear Q0
  have k0 : (0 : Int) ≤ (i : Int) := by omega
  have k1 : (i : Int) < (N : Int) := by omega
  have b0 := (blk_cell M.out.b 0).trans rfl
  have b1 := (blk_cell M.out.b 1).trans rfl
  revert r
  refine @elim_out 357 _ ?_
  iterate 357 (intro _)
  show Code.wp _ _ _ _ _
  conv => arg 2; dsimp only [xTG, xLF, xW, xX, xL, x0, Tryd.f27, Option.getD, sR, sL, cT, cF, bk, lpo]
  conv => arg 4; dsimp only [Fz]
  go_wp2_with fail
  refine hn.out _ _ _ ?_ (below_alloc' (Below.refl _ _) _) (M.out.al _) (M.out.tb _ _)
  rfl
theorem tagw17A {w wr : World} {Q : Exit → Act → World → Prop} {v0 v3 ov sv wt v7 v8 v9 v11 v12 v13 v14 v15 : Value} {r : List Value} (hr : r.length = 357) {A B : Code} {y : Tk} {by0 : Nat} (T2 : Hid (Tb w by0 #[.int .i64 (kS y), .int .i64 y.v, .string ⟨(wS y).toArray⟩, .int .i64 (y.at' : Int)] 40 wr)) (hk : kS y ≠ 1) (hn : Hid (∀ r', r'.length = 357 → Code.wp Tryd.prog A Q (Fz w v0 v3 ov sv wt v7 v8 v9 (.pointer (some ⟨by0, 0, none⟩)) v11 v12 v13 v14 v15 r') wr)) :
    Code.wp Tryd.prog (.seq (sL (sL (sR xTG))) (.cond (.tmp 76) A B)) Q (Fz w v0 v3 ov sv wt v7 v8 v9 (.pointer (some ⟨by0, 0, none⟩)) v11 v12 v13 v14 v15 r) wr := by
  have q0 := (blk_cell T2.out.b 0).trans rfl
  have q2 := (blk_cell T2.out.b 2).trans rfl
  have h1 : kS y ≠ 1 := hk
  revert r
  refine @elim_out 357 _ ?_
  iterate 357 (intro _)
  show Code.wp _ _ _ _ _
  conv => arg 2; dsimp only [xTG, xLF, xW, xX, xL, x0, Tryd.f27, Option.getD, sR, sL, cT, cF, bk, lpo]
  conv => arg 4; dsimp only [Fz]
  go_wp2_with fail
  refine hn.out _ ?_
  rfl
theorem tagn17A {w wr : World} {Q : Exit → Act → World → Prop} {v0 v3 ov sv wt v7 v8 v9 v11 v12 v13 v14 v15 : Value} {r : List Value} (hr : r.length = 357) {A B : Code} {y : Tk} {by0 : Nat} (T2 : Hid (Tb w by0 #[.int .i64 (kS y), .int .i64 y.v, .string ⟨(wS y).toArray⟩, .int .i64 (y.at' : Int)] 40 wr)) (hy : Tc y) (hn16 : y.n.length ≤ 65536) (hk : kS y = 1) (hg : tagT y ≠ true) (hn : Hid (∀ r', r'.length = 357 → Code.wp Tryd.prog A Q (Fz w v0 v3 ov sv wt v7 v8 v9 (.pointer (some ⟨by0, 0, none⟩)) v11 v12 v13 v14 v15 r') wr)) :
    Code.wp Tryd.prog (.seq (sL (sL (sR xTG))) (.cond (.tmp 76) A B)) Q (Fz w v0 v3 ov sv wt v7 v8 v9 (.pointer (some ⟨by0, 0, none⟩)) v11 v12 v13 v14 v15 r) wr := by
  have q00 := (blk_cell T2.out.b 0).trans rfl
  have q02 := (blk_cell T2.out.b 2).trans rfl
  have q1 : (kS y != 1) = false := by rw [hk]; rfl
  obtain ⟨hwn, hwl⟩ := word_of hy hk
  have CT : Hid (∀ W, Calls Tryd.prog 42 #[.string ⟨(wS y).toArray⟩] W fun e w' => e = .returned (.bool false) ∧ w' = W) := fun W => by
    have := isTagS y.n hn16 hwl W
    rw [hwn]
    rw [show (y.n.length == 1 && decide ((y.n.getD 0 0).toNat ≤ 112)) = false from Bool.eq_false_iff.2 (fun e => hg ((tagT_iff hy).2 ⟨hk, by simp at e; exact ⟨e.1, by simpa using e.2⟩⟩))] at this
    exact this
  clear hwn hwl hk hg hy hn16
  revert r
  refine @elim_out 357 _ ?_
  iterate 357 (intro _)
  show Code.wp _ _ _ _ _
  conv => arg 2; dsimp only [xTG, xLF, xW, xX, xL, x0, Tryd.f27, Option.getD, sR, sL, cT, cF, bk, lpo]
  conv => arg 4; dsimp only [Fz]
  go_wp2_with (go_at_call 42; go_must (refine (CT.out _).mono ?_; rintro e w' ⟨rfl, hww⟩; rw [hww]; clear hww))
  refine hn.out _ ?_
  rfl
theorem tagg17B {w wr : World} {Q : Exit → Act → World → Prop} {v0 v3 ov sv wt v7 v8 v9 v11 v12 v13 v14 v15 : Value} {r : List Value} (hr : r.length = 357) {A B : Code} {y : Tk} {ch : UInt8} {by0 : Nat} (T2 : Hid (Tb w by0 #[.int .i64 (kS y), .int .i64 y.v, .string ⟨#[ch]⟩, .int .i64 (y.at' : Int)] 40 wr)) (hwl : letB ch = true) (h112 : ch.toNat ≤ 112) (hk : kS y = 1) (hn : Hid (∀ r', r'.length = 357 → Code.wp Tryd.prog B Q (Fz w v0 v3 ov sv wt v7 v8 v9 (.pointer (some ⟨by0, 0, none⟩)) v11 v12 v13 v14 v15 r') wr)) :
    Code.wp Tryd.prog (.seq (sL (sL (sR xTG))) (.cond (.tmp 76) A B)) Q (Fz w v0 v3 ov sv wt v7 v8 v9 (.pointer (some ⟨by0, 0, none⟩)) v11 v12 v13 v14 v15 r) wr := by
  have q00 := (blk_cell T2.out.b 0).trans rfl
  have q02 := (blk_cell T2.out.b 2).trans rfl
  have q1 : (kS y != 1) = false := by rw [hk]; rfl
  have CT : Hid (∀ W, Calls Tryd.prog 42 #[.string ⟨#[ch]⟩] W fun e w' => e = .returned (.bool true) ∧ w' = W) := fun W => by
    have := isTagS [ch] (by simp) hwl W
    rw [show ((([ch] : List UInt8).length == 1) && decide ((([ch] : List UInt8).getD 0 0).toNat ≤ 112)) = true by simpa using h112] at this
    exact this
  clear hwl hk h112
  revert r
  refine @elim_out 357 _ ?_
  iterate 357 (intro _)
  show Code.wp _ _ _ _ _
  conv => arg 2; dsimp only [xTG, xLF, xW, xX, xL, x0, Tryd.f27, Option.getD, sR, sL, cT, cF, bk, lpo]
  conv => arg 4; dsimp only [Fz]
  go_wp2_with (go_at_call 42; go_must (refine (CT.out _).mono ?_; rintro e w' ⟨rfl, hww⟩; rw [hww]; clear hww))
  refine hn.out _ ?_
  rfl
theorem val19 {w wr : World} {Q : Exit → Act → World → Prop} {v0 v3 ov sv wt v7 v8 v11 v12 v13 v14 v15 : Value} {r : List Value} (hr : r.length = 357) {y : Tk} {ch : UInt8} {by0 : Nat} (T2 : Hid (Tb w by0 #[.int .i64 (kS y), .int .i64 y.v, .string ⟨#[ch]⟩, .int .i64 (y.at' : Int)] 40 wr)) {pk pv : Int} {pn : ByteArray} {bo : Nat} (HO : Hid (Tb w bo #[.int .i64 pk, .int .i64 pv, .string pn] 82 wr)) (hn : Hid (∀ r', r'.length = 357 → Q .normal (Fz w v0 v3 ov sv wt v7 v8 (.pointer (some ⟨bo, 0, none⟩)) (.pointer (some ⟨by0, 0, none⟩)) v11 v12 v13 v14 v15 r') (wr.setCell ⟨bo, 1, none⟩ (.int .i64 (wrap64 (wrap64 (ch.toNat : Int) - 97)))))) :
    Code.wp Tryd.prog (sL (sR (sR xTG))) Q (Fz w v0 v3 ov sv wt v7 v8 (.pointer (some ⟨bo, 0, none⟩)) (.pointer (some ⟨by0, 0, none⟩)) v11 v12 v13 v14 v15 r) wr := by
  have q2 := (blk_cell T2.out.b 2).trans rfl
  have p1 := (blk_cell HO.out.b 1).trans rfl
  have fp1 := blk_unfrozen HO.out.b 1
  revert r
  refine @elim_out 357 _ ?_
  iterate 357 (intro _)
  show Code.wp _ _ _ _ _
  conv => arg 2; dsimp only [xTG, xLF, xW, xX, xL, x0, Tryd.f27, Option.getD, sR, sL, cT, cF, bk, lpo]
  conv => arg 4; dsimp only [Fz]
  go_wp2_with fail
  refine hn.out _ ?_
  rfl
theorem app21 {g N c a i o : Nat} {w wr : World} {st : List Ent} {out : List Po} {Q : Exit → Act → World → Prop} {v0 v3 sv wt v7 v8 v10 v11 v12 v13 v14 v15 : Value} {r : List Value} (hr : r.length = 357) {p : Po} {bo oc : Nat} {oa : Option Addr} (HO : Hid (Tb w bo p.cells.toArray 82 wr)) (M : Hid (Mz g N c a w (i : Int) (o : Int) sv st (.slice oa out.length oc) out wr)) (hl : out.length ≤ 100000) (hn : Hid (∀ r' ov' wx, r'.length = 357 → Mz g N c a w (i : Int) (o : Int) sv st ov' (out ++ [p]) wx → Q .normal (Fz w v0 v3 (ov') sv wt v7 v8 (.pointer (some ⟨bo, 0, none⟩)) v10 v11 v12 v13 v14 v15 r') wx)) :
    Code.wp Tryd.prog (sL (sR (sR (sR (sR xLF))))) Q (Fz w v0 v3 (.slice oa out.length oc) sv wt v7 v8 (.pointer (some ⟨bo, 0, none⟩)) v10 v11 v12 v13 v14 v15 r) wr := by
  obtain ⟨i0, hi0, hz0, hz1, hz2⟩ := info_parts infoO
  have hBs : w.heap.size ≤ wr.heap.size := M.out.bel.size
  have O3 := Hid.mk (M.out.al (.cells p.cells.toArray 82)).o
  have q0 := (blk_cell HO.out.b 0).trans (show _ = some (.int .i64 p.k) from rfl)
  have q1 := (blk_cell HO.out.b 1).trans (show _ = some (.int .i64 p.v) from rfl)
  have q2 := (blk_cell HO.out.b 2).trans (show _ = some (.string ⟨p.n.toArray⟩) from rfl)
  revert r
  refine @elim_out 357 _ ?_
  iterate 357 (intro _)
  show Code.wp _ _ _ _ _
  conv => arg 2; dsimp only [xLF, xW, xX, xL, x0, Tryd.f27, Option.getD, sR, sL, cT, cF, bk, lpo]
  conv => arg 4; dsimp only [Fz]
  go_wp2_with (first | (at_builtin; go_must (refine wpList_append_own_at _ rfl _ _ 43 rfl w.heap.size 82 i0 (.agg #[.int .i64 0, .int .i64 0, .string ⟨#[]⟩]) 3 32 Tryd.underlying43 hi0 hz0 hz1 hz2 rfl (by decide) _ _ _ rfl O3.out ⟨wr.heap.size, 0, none⟩ 1 1 (p : Po).cells rfl rfl (newsO wr p) (oneO _) (by unfold maxLen; omega) (by omega) (by simp; omega) ?_)) | (refine wpList_build1 rfl 43 82 _ rfl i0 _ Tryd.underlying43 hi0 hz0 3 hz1 (p : Po).cells rfl (fillO _ _ _) (by decide) (by decide) ?_))
  intro v' w4 hown hgrow _ hat
  have M4 := Hid.mk ((M.out.al (.cells p.cells.toArray 82)).snoc (o := p) hown (gx_app hgrow (by simpa using hat)))
  clear hown hgrow hat O3 M
  refine Hid.out ?_
  refine Lib.hid ?_
  go_wp2_with fail
  refine hn.out _ _ _ ?_ M4.out
  rfl
end Go.Proofs.YtfoigigbggickaaDoor.Par
namespace Go.Proofs.YtfoigigbggickaaDoor.Par
open Go Go.RowKit Go.Proofs.YtfoigigbggickaaDoor.Mem Go.Proofs.YtfoigigbggickaaDoor.Syn Go.Proofs.YtfoigigbggickaaDoor.Parse
set_option linter.unusedVariables false
set_option linter.unusedSimpArgs false

variable {t : List UInt8} {g N c a i o : Nat} {w wr : World} {R : Rs (List Po × Nat × Nat)} {st : List Ent} {out : List Po} {v0 v3 ov sv wt v7 v8 v9 v10 v11 v12 v13 v14 v15 : Value} {r : List Value}
/-- What follows a leaf's tag: it is written, what waits for it too. -/
theorem leafE {p : Po} {bo i' o' : Nat} (hr : r.length = 357) (E : Hid (Ez t g N c a w R ⟨i, o, st, out, true⟩ sv ov wr)) (hi' : i < i') (hi2 : i' < N) (ho : o' ≤ 2000) (hN5 : N ≤ 100000)
    (hs : stp (tkT t) ⟨i, o, st, out, true⟩ = .inl ⟨i', o', (dr 6 st (out ++ [p])).1, (dr 6 st (out ++ [p])).2, false⟩) {wy : World} (M : Hid (Mz g N c a w (i' : Int) (o' : Int) sv st ov out wy)) (HO : Hid (Tb w bo p.cells.toArray 82 wy)) :
    Code.wp Tryd.prog (.seq (sL (sR (sR (sR (sR xLF))))) (.seq (sL (sR (sR (sR (sR (sR xLF)))))) (sR (sR (sR (sR (sR (sR xLF)))))))) (RQ t g N c a w R i) (Fz w v0 v3 ov sv wt v7 v8 (.pointer (some ⟨bo, 0, none⟩)) v10 v11 v12 v13 v14 v15 r) wy := by
  obtain ⟨oa, oc, rfl⟩ := M.out.oshape
  obtain ⟨sa, sc, rfl⟩ := M.out.eshape
  have hln : st.length + out.length ≤ i := E.out.ln
  have hi : i < N := E.out.hi
  refine wp_seq (app21 hr HO M (by omega) (Hid.mk fun r4 ov4 w4 hr4 M4 => ?_))
  refine wp_seq (dr22 hr4 (Hid.mk M4) (by simp; omega) (Hid.mk fun r5 ov5 w5 hr5 M5 => ?_))
  refine setw23 hr5 (Hid.mk fun r6 hr6 => ?_)
  refine RQ.norm ⟨i', o', (dr 6 st (out ++ [p])).1, (dr 6 st (out ++ [p])).2, false⟩ hr6 rfl hi' ⟨M5, ends_inl E.out.en hs, E.out.wf.dr6 _, hi2, ?_, ho⟩
  have := dr_sum 6 st (out ++ [p])
  simp at this ⊢
  omega
theorem leafB {p : Po} {bo : Nat} (hr : r.length = 357) (hT : Hid (Tq t N g w)) (hNf : Hid (Nf t N)) (E : Hid (Ez t g N c a w R ⟨i, o, st, out, true⟩ sv ov wr)) (h50 : (tkT t i).k < 50) (hl : leafR (tkT t i) = (true, p)) (HO : Hid (Tb w bo p.cells.toArray 82 wr)) (hfar : sv.ownBlock ≠ some bo ∧ ov.ownBlock ≠ some bo) :
    Code.wp Tryd.prog xLF (RQ t g N c a w R i) (Fz w v0 v3 ov sv wt v7 v8 (.pointer (some ⟨bo, 0, none⟩)) v10 v11 v12 v13 v14 v15 r) wr := by
  have hN5 := hNf.out.le
  have M : Hid (Mz g N c a w (i : Int) (o : Int) sv st ov out wr) := Hid.mk E.out.m
  have hi : i < N := E.out.hi
  have ho : o ≤ 2000 := E.out.o2
  obtain ⟨hk0, hpk⟩ := leaf_k hl
  have hi1 : i + 1 < N := hNf.out.next hi hk0 h50
  have hst := stp_leaf (o := o) (st := st) (out := out) h50 hl
  rw [xLF_eq]
  by_cases h2 : o = 2000
  · rw [if_pos h2] at hst
    refine wp_seq (chko11A hr M h2 (Hid.mk fun r' hr' => ?_))
    exact fail12 (m := 0) hr' hT.out hN5 hi ho (E.out.bad6 h50 hst) M (Hid.mk fun a' wx h => h)
  rw [if_neg h2] at hst
  refine wp_seq (chko11B hr M h2 (Hid.mk fun r1 hr1 => wp_skip ?_))
  refine wp_seq (inc13 hr1 M (by omega) (Hid.mk fun r2 hr2 => ?_))
  have M1 := Hid.mk (M.out.seto ((o + 1 : Nat) : Int))
  have H1 := Hid.mk (HO.out.setp 2 (.int .i64 ((o + 1 : Nat) : Int)))
  refine wp_seq (inc14 hr2 M1 (by omega) (Hid.mk fun r3 hr3 => ?_))
  have M2 := Hid.mk (M1.out.seti ((i + 1 : Nat) : Int))
  have H2 := Hid.mk (H1.out.setp 1 (.int .i64 ((i + 1 : Nat) : Int)))
  clear M M1 H1 HO
  by_cases hpp : p.k = 4 ∨ p.k = 5
  · rw [if_pos hpp] at hst
    have hn0 : p.n = [] := by
      rcases hpk with ⟨_, _, h⟩ | ⟨_, _, h⟩ | ⟨h4, h5, -⟩
      · exact h
      · exact h
      · omega
    have key : ∀ r4 : List Value, r4.length = 357 → Code.wp Tryd.prog xTG (Exit.then (Code.wp Tryd.prog (.seq (sL (sR (sR (sR (sR xLF))))) (.seq (sL (sR (sR (sR (sR (sR xLF)))))) (sR (sR (sR (sR (sR (sR xLF)))))))) (RQ t g N c a w R i)) (RQ t g N c a w R i)) (Fz w v0 v3 ov sv wt v7 v8 (.pointer (some ⟨bo, 0, none⟩)) v10 v11 v12 v13 v14 v15 r4) ((wr.setCell ⟨w.heap.size, 2, none⟩ (.int .i64 ((o + 1 : Nat) : Int))).setCell ⟨w.heap.size, 1, none⟩ (.int .i64 ((i + 1 : Nat) : Int))) := fun r4 hr4 => by
      obtain ⟨y, hy⟩ : ∃ y, y = tkT t (i + 1) := ⟨_, rfl⟩
      have hyc : Tc y := by rw [hy]; exact tk_cl t (i + 1)
      have hyn : y.n.length ≤ 65536 := by rw [hy]; exact n_len t (i + 1)
      rw [xTG_eq]
      refine wp_seq (tok16 hr4 (Hid.mk hy) hT hN5 hi1 M2 (Hid.mk fun r5 by0 w5 hr5 hb5 M5 T5 => ?_))
      have H5 := Hid.mk (H2.out.below hb5)
      have M5 := Hid.mk M5
      have T5 := Hid.mk T5
      by_cases hg : tagT y = true
      · obtain ⟨hk1, hl1, h112⟩ := (tagT_iff hyc).1 hg
        obtain ⟨hwn, hwl⟩ := word_of hyc hk1
        obtain ⟨ch, hch⟩ : ∃ ch, y.n = [ch] := by
          cases hn : y.n with
          | nil => rw [hn] at hl1; simp at hl1
          | cons d r => cases r with
            | nil => exact ⟨d, rfl⟩
            | cons e r => rw [hn] at hl1; simp at hl1
        rw [hwn, hch] at T5
        rw [hch] at hwl h112
        rw [← hy, if_pos hg, hch] at hst
        refine wp_seq (tagg17B hr5 T5 hwl h112 hk1 (Hid.mk fun r6 hr6 => wp_skip ?_))
        refine wp_seq (val19 hr6 T5 H5 (Hid.mk fun r7 hr7 => ?_))
        rw [w64_tag]
        have M6 := Hid.mk (M5.out.setq (k := 1) H5.out.n0 H5.out.n1 H5.out.le hfar.1 hfar.2 (.int .i64 ((ch.toNat : Int) - 97)))
        have H6 : Hid (Tb w bo (⟨p.k, (ch.toNat : Int) - 97, []⟩ : Po).cells.toArray 82 _) := Hid.mk (H5.out.setq 1 (.int .i64 ((ch.toNat : Int) - 97)) |> fun h => by
          have e : (p.cells.toArray.setIfInBounds 1 (.int .i64 ((ch.toNat : Int) - 97))) = (⟨p.k, (ch.toNat : Int) - 97, []⟩ : Po).cells.toArray := by simp [Po.cells, hn0]
          rw [← e]; exact h)
        have hk50 : (tkT t (i + 1)).k < 50 := tk_tag t (i + 1) (by rw [← hy]; exact hg)
        have hkn0 : (tkT t (i + 1)).k ≠ 0 := fun e => by rw [← hy] at e; unfold kS at hk1; rw [e] at hk1; simp at hk1
        refine inc20 hr7 M6 (by omega) (Hid.mk fun r8 hr8 => ?_)
        have M7 := Hid.mk (M6.out.seti ((i + 1 + 1 : Nat) : Int))
        have H7 := Hid.mk (H6.out.setp 1 (.int .i64 ((i + 1 + 1 : Nat) : Int)))
        exact leafE hr8 E (by omega) (hNf.out.next hi1 hkn0 hk50) (by omega) hN5 hst M7 H7
      · rw [← hy, if_neg hg] at hst
        have hR : R = .bad (fcode 4 (tkT t (i + 1))) (tkT t (i + 1)).at' := by rw [← flt_eq]; exact ends_inr E.out.en hst
        by_cases hk1 : kS y = 1
        · refine wp_seq (tagn17A hr5 T5 hyc hyn hk1 hg (Hid.mk fun r6 hr6 => ?_))
          exact fail18 (m := 0) hr6 hT.out hN5 hi1 (by omega) hR M5 (Hid.mk fun a' wx h => h)
        · refine wp_seq (tagw17A hr5 T5 hk1 (Hid.mk fun r6 hr6 => ?_))
          exact fail18 (m := 0) hr6 hT.out hN5 hi1 (by omega) hR M5 (Hid.mk fun a' wx h => h)
    rcases hpp with h4 | h5
    · exact wp_seq (has15A hr3 H2 h4 (Hid.mk fun r4 hr4 => key r4 hr4))
    · exact wp_seq (skill15A hr3 H2 h5 (Hid.mk fun r4 hr4 => key r4 hr4))
  · rw [if_neg hpp] at hst
    refine wp_seq (has15B hr3 H2 (by omega) (Hid.mk fun r4 hr4 => wp_skip ?_))
    exact leafE hr4 E (Nat.lt_succ_self i) hi1 (by omega) hN5 hst M2 H2
end Go.Proofs.YtfoigigbggickaaDoor.Par
