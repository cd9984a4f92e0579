import Derived.Test.YtfoigigbggickaaDoorPq27
namespace Go.Proofs.YtfoigigbggickaaDoor.Par
open Go Go.RowKit Go.Proofs.YtfoigigbggickaaDoor.Mem Go.Proofs.YtfoigigbggickaaDoor.Syn Go.Proofs.YtfoigigbggickaaDoor.Parse
set_option linter.unusedVariables false
set_option linter.unusedSimpArgs false
set_option maxHeartbeats 6400000
set_option maxRecDepth 1000000
attribute [local go_sem ↓] Go.wp_at_zero Go.wp_at_succ
theorem bin59A {w wr : World} {Q : Exit → Act → World → Prop} {v0 v3 ov sv wt v8 v9 v10 v11 v12 v14 v15 : Value} {r : List Value} (hr : r.length = 357) {x : Tk} {bt : Nat} (hx : Hid (Tc x)) (T1 : Hid (Tb w bt #[.int .i64 (kS x), .int .i64 x.v, .string ⟨(wS x).toArray⟩, .int .i64 (x.at' : Int)] 40 wr)) (hk : kS x = 1) (hn : Hid (∀ r', r'.length = 357 → Q .normal (Fz w v0 v3 ov sv wt (.pointer (some ⟨bt, 0, none⟩)) v8 v9 v10 v11 v12 (.int .i64 (bnV x.k)) v14 v15 r') wr)) :
    Code.wp Tryd.prog (sL (sR xN)) Q (Fz w v0 v3 ov sv wt (.pointer (some ⟨bt, 0, none⟩)) v8 v9 v10 v11 v12 (.int .i64 (-1)) v14 v15 r) wr := by
  have t0 := (blk_cell T1.out.b 0).trans rfl
  have t2 := (blk_cell T1.out.b 2).trans rfl
  have h1 : (kS x == 1) = true := by rw [hk]; rfl
  have CB := Hid.mk (binOfS x hx.out (Or.inl hk) wr)
  clear hk
  revert r
  refine @elim_out 357 _ ?_
  iterate 357 (intro _)
  show Code.wp _ _ _ _ _
  conv => arg 2; dsimp only [xN, xX, xL, x0, Tryd.f27, Option.getD, sR, sL, cT, cF, bk, lpo]
  conv => arg 4; dsimp only [Fz]
  go_wp2_with (go_at_call 45; go_must (refine CB.out.mono ?_; rintro e w' ⟨rfl, hww⟩; rw [hww]; clear hww))
  refine hn.out _ ?_
  rfl
theorem bin59C {w wr : World} {Q : Exit → Act → World → Prop} {v0 v3 ov sv wt v8 v9 v10 v11 v12 v14 v15 : Value} {r : List Value} (hr : r.length = 357) {x : Tk} {bt : Nat} (hx : Hid (Tc x)) (T1 : Hid (Tb w bt #[.int .i64 (kS x), .int .i64 x.v, .string ⟨(wS x).toArray⟩, .int .i64 (x.at' : Int)] 40 wr)) (hk : kS x = 3) (hn : Hid (∀ r', r'.length = 357 → Q .normal (Fz w v0 v3 ov sv wt (.pointer (some ⟨bt, 0, none⟩)) v8 v9 v10 v11 v12 (.int .i64 (bnV x.k)) v14 v15 r') wr)) :
    Code.wp Tryd.prog (sL (sR xN)) Q (Fz w v0 v3 ov sv wt (.pointer (some ⟨bt, 0, none⟩)) v8 v9 v10 v11 v12 (.int .i64 (-1)) v14 v15 r) wr := by
  have t0 := (blk_cell T1.out.b 0).trans rfl
  have t2 := (blk_cell T1.out.b 2).trans rfl
  have h1 : (kS x == 1) = false := by rw [hk]; rfl
  have h2 : (kS x == 3) = true := by rw [hk]; rfl
  have CB := Hid.mk (binOfS x hx.out (Or.inr hk) wr)
  clear hk
  revert r
  refine @elim_out 357 _ ?_
  iterate 357 (intro _)
  show Code.wp _ _ _ _ _
  conv => arg 2; dsimp only [xN, xX, xL, x0, Tryd.f27, Option.getD, sR, sL, cT, cF, bk, lpo]
  conv => arg 4; dsimp only [Fz]
  go_wp2_with (go_at_call 45; go_must (refine CB.out.mono ?_; rintro e w' ⟨rfl, hww⟩; rw [hww]; clear hww))
  refine hn.out _ ?_
  rfl
theorem bin59B {w wr : World} {Q : Exit → Act → World → Prop} {v0 v3 ov sv wt v8 v9 v10 v11 v12 v14 v15 : Value} {r : List Value} (hr : r.length = 357) {x : Tk} {bt : Nat} (hx : Hid (Tc x)) (T1 : Hid (Tb w bt #[.int .i64 (kS x), .int .i64 x.v, .string ⟨(wS x).toArray⟩, .int .i64 (x.at' : Int)] 40 wr)) (hk : kS x ≠ 1 ∧ kS x ≠ 3) (hn : Hid (∀ r', r'.length = 357 → Q .normal (Fz w v0 v3 ov sv wt (.pointer (some ⟨bt, 0, none⟩)) v8 v9 v10 v11 v12 (.int .i64 (-1)) v14 v15 r') wr)) :
    Code.wp Tryd.prog (sL (sR xN)) Q (Fz w v0 v3 ov sv wt (.pointer (some ⟨bt, 0, none⟩)) v8 v9 v10 v11 v12 (.int .i64 (-1)) v14 v15 r) wr := by
  have t0 := (blk_cell T1.out.b 0).trans rfl
  have t2 := (blk_cell T1.out.b 2).trans rfl
  have h1 : (kS x == 1) = false := by simpa using hk.1
  have h2 : (kS x == 3) = false := by simpa using hk.2
  clear hk
  revert r
  refine @elim_out 357 _ ?_
  iterate 357 (intro _)
  show Code.wp _ _ _ _ _
  conv => arg 2; dsimp only [xN, xX, xL, x0, Tryd.f27, Option.getD, sR, sL, cT, cF, bk, lpo]
  conv => arg 4; dsimp only [Fz]
  go_wp2_with fail
  refine hn.out _ ?_
  rfl
theorem inn61 {g N c a i o : Nat} {w wr : World} {st : List Ent} {out : List Po} {Q : Exit → Act → World → Prop} {v0 v3 ov wt v7 v8 v9 v10 v11 v12 v13 v14 v15 : Value} {r : List Value} (hr : r.length = 357) {sa : Option Addr} {sc : Nat} (M : Hid (Mz g N c a w (i : Int) (o : Int) (.slice sa st.length sc) st ov out wr)) (hl : st.length ≤ 100000) (hn : Hid (∀ r', r'.length = 357 → Q .normal (Fz w v0 v3 ov (.slice sa st.length sc) wt v7 v8 v9 v10 v11 v12 v13 (.int .i64 (innI st)) v15 r') wr)) :
    Code.wp Tryd.prog (sL (sR (sR xN))) Q (Fz w v0 v3 ov (.slice sa st.length sc) wt v7 v8 v9 v10 v11 v12 v13 v14 v15 r) wr := by
  have CI := Hid.mk (innerS w.heap.size sa st.length sc st wr M.out.e rfl hl)
  revert r
  refine @elim_out 357 _ ?_
  iterate 357 (intro _)
  show Code.wp _ _ _ _ _
  conv => arg 2; dsimp only [xN, xX, xL, x0, Tryd.f27, Option.getD, sR, sL, cT, cF, bk, lpo]
  conv => arg 4; dsimp only [Fz]
  go_wp2_with (go_at_call 46; go_must (refine CI.out.mono ?_; rintro e w' ⟨rfl, hww⟩; rw [hww]; clear hww))
  refine hn.out _ ?_
  rfl
theorem b62A {w wr : World} {Q : Exit → Act → World → Prop} {v0 v3 ov sv wt v7 v8 v9 v10 v11 v12 v14 v15 : Value} {r : List Value} (hr : r.length = 357) {A B : Code} {bz : Int} (hk : 0 ≤ bz) (hn : Hid (∀ r', r'.length = 357 → Code.wp Tryd.prog A Q (Fz w v0 v3 ov sv wt v7 v8 v9 v10 v11 v12 (.int .i64 bz) v14 v15 r') wr)) :
    Code.wp Tryd.prog (.seq (sL (sR (sR (sR xN)))) (.cond (.tmp 221) A B)) Q (Fz w v0 v3 ov sv wt v7 v8 v9 v10 v11 v12 (.int .i64 bz) v14 v15 r) wr := by
  have h1 : (0 : Int) ≤ bz := hk
  revert r
  refine @elim_out 357 _ ?_
  iterate 357 (intro _)
  show Code.wp _ _ _ _ _
  conv => arg 2; dsimp only [xN, xX, xL, x0, Tryd.f27, Option.getD, sR, sL, cT, cF, bk, lpo]
  conv => arg 4; dsimp only [Fz]
  go_wp2_with fail
  refine hn.out _ ?_
  rfl
theorem b62B {w wr : World} {Q : Exit → Act → World → Prop} {v0 v3 ov sv wt v7 v8 v9 v10 v11 v12 v14 v15 : Value} {r : List Value} (hr : r.length = 357) {A B : Code} {bz : Int} (hk : bz < 0) (hn : Hid (∀ r', r'.length = 357 → Code.wp Tryd.prog B Q (Fz w v0 v3 ov sv wt v7 v8 v9 v10 v11 v12 (.int .i64 bz) v14 v15 r') wr)) :
    Code.wp Tryd.prog (.seq (sL (sR (sR (sR xN)))) (.cond (.tmp 221) A B)) Q (Fz w v0 v3 ov sv wt v7 v8 v9 v10 v11 v12 (.int .i64 bz) v14 v15 r) wr := by
  have h1 : decide ((0 : Int) ≤ bz) = false := by simp; omega
  have h2 : ¬ (0 : Int) ≤ bz := by omega
  clear hk
  revert r
  refine @elim_out 357 _ ?_
  iterate 357 (intro _)
  show Code.wp _ _ _ _ _
  conv => arg 2; dsimp only [xN, xX, xL, x0, Tryd.f27, Option.getD, sR, sL, cT, cF, bk, lpo]
  conv => arg 4; dsimp only [Fz]
  go_wp2_with fail
  refine hn.out _ ?_
  rfl
theorem str63 {w wr : World} {Q : Exit → Act → World → Prop} {v0 v3 ov sv wt v7 v8 v9 v10 v11 v12 v14 v15 : Value} {r : List Value} (hr : r.length = 357) {bz : Int} (hn : Hid (∀ r', r'.length = 357 → Q .normal (Fz w v0 v3 ov sv wt v7 v8 v9 v10 v11 v12 (.int .i64 bz) v14 (.int .i64 (bstr bz)) r') wr)) :
    Code.wp Tryd.prog (sL xBI) Q (Fz w v0 v3 ov sv wt v7 v8 v9 v10 v11 v12 (.int .i64 bz) v14 v15 r) wr := by
  have CB := Hid.mk (bstrS bz wr)
  revert r
  refine @elim_out 357 _ ?_
  iterate 357 (intro _)
  show Code.wp _ _ _ _ _
  conv => arg 2; dsimp only [xBI, xN, xX, xL, x0, Tryd.f27, Option.getD, sR, sL, cT, cF, bk, lpo]
  conv => arg 4; dsimp only [Fz]
  go_wp2_with (go_at_call 47; go_must (refine CB.out.mono ?_; rintro e w' ⟨rfl, hww⟩; rw [hww]; clear hww))
  refine hn.out _ ?_
  rfl
theorem s64A {w wr : World} {Q : Exit → Act → World → Prop} {v0 v3 ov sv wt v7 v8 v9 v10 v11 v12 v13 v14 : Value} {r : List Value} (hr : r.length = 357) {A B : Code} {z : Int} (hk : z = 3) (hn : Hid (∀ r', r'.length = 357 → Code.wp Tryd.prog A Q (Fz w v0 v3 ov sv wt v7 v8 v9 v10 v11 v12 v13 v14 (.int .i64 z) r') wr)) :
    Code.wp Tryd.prog (.seq (sL (sL (sR xBI))) (.cond (.tmp 225) A B)) Q (Fz w v0 v3 ov sv wt v7 v8 v9 v10 v11 v12 v13 v14 (.int .i64 z) r) wr := by
  have h1 : (z == 3) = true := by simp; omega
  clear hk
  revert r
  refine @elim_out 357 _ ?_
  iterate 357 (intro _)
  show Code.wp _ _ _ _ _
  conv => arg 2; dsimp only [xBI, xN, xX, xL, x0, Tryd.f27, Option.getD, sR, sL, cT, cF, bk, lpo]
  conv => arg 4; dsimp only [Fz]
  go_wp2_with fail
  refine hn.out _ ?_
  rfl
theorem s64B {w wr : World} {Q : Exit → Act → World → Prop} {v0 v3 ov sv wt v7 v8 v9 v10 v11 v12 v13 v14 : Value} {r : List Value} (hr : r.length = 357) {A B : Code} {z : Int} (hk : z ≠ 3) (hn : Hid (∀ r', r'.length = 357 → Code.wp Tryd.prog B Q (Fz w v0 v3 ov sv wt v7 v8 v9 v10 v11 v12 v13 v14 (.int .i64 z) r') wr)) :
    Code.wp Tryd.prog (.seq (sL (sL (sR xBI))) (.cond (.tmp 225) A B)) Q (Fz w v0 v3 ov sv wt v7 v8 v9 v10 v11 v12 v13 v14 (.int .i64 z) r) wr := by
  have h1 : (z == 3) = false := by simp; omega
  clear hk
  revert r
  refine @elim_out 357 _ ?_
  iterate 357 (intro _)
  show Code.wp _ _ _ _ _
  conv => arg 2; dsimp only [xBI, xN, xX, xL, x0, Tryd.f27, Option.getD, sR, sL, cT, cF, bk, lpo]
  conv => arg 4; dsimp only [Fz]
  go_wp2_with fail
  refine hn.out _ ?_
  rfl
theorem in75A {w wr : World} {Q : Exit → Act → World → Prop} {v0 v3 ov sv wt v7 v8 v9 v10 v11 v12 v13 v15 : Value} {r : List Value} (hr : r.length = 357) {A B : Code} {zi : Int} (hk : zi < 0) (hn : Hid (∀ r', r'.length = 357 → Code.wp Tryd.prog A Q (Fz w v0 v3 ov sv wt v7 v8 v9 v10 v11 v12 v13 (.int .i64 zi) v15 r') wr)) :
    Code.wp Tryd.prog (.seq (sL xNB) (.cond (.tmp 286) A B)) Q (Fz w v0 v3 ov sv wt v7 v8 v9 v10 v11 v12 v13 (.int .i64 zi) v15 r) wr := by
  have h1 : zi < 0 := hk
  revert r
  refine @elim_out 357 _ ?_
  iterate 357 (intro _)
  show Code.wp _ _ _ _ _
  conv => arg 2; dsimp only [xNB, xN, xX, xL, x0, Tryd.f27, Option.getD, sR, sL, cT, cF, bk, lpo]
  conv => arg 4; dsimp only [Fz]
  go_wp2_with fail
  refine hn.out _ ?_
  rfl
theorem in75B {w wr : World} {Q : Exit → Act → World → Prop} {v0 v3 ov sv wt v7 v8 v9 v10 v11 v12 v13 v15 : Value} {r : List Value} (hr : r.length = 357) {A B : Code} {zi : Int} (hk : 0 ≤ zi) (hn : Hid (∀ r', r'.length = 357 → Code.wp Tryd.prog B Q (Fz w v0 v3 ov sv wt v7 v8 v9 v10 v11 v12 v13 (.int .i64 zi) v15 r') wr)) :
    Code.wp Tryd.prog (.seq (sL xNB) (.cond (.tmp 286) A B)) Q (Fz w v0 v3 ov sv wt v7 v8 v9 v10 v11 v12 v13 (.int .i64 zi) v15 r) wr := by
  have h1 : decide (zi < 0) = false := by simp; omega
  have h2 : ¬ zi < 0 := by omega
  clear hk
  revert r
  refine @elim_out 357 _ ?_
  iterate 357 (intro _)
  show Code.wp _ _ _ _ _
  conv => arg 2; dsimp only [xNB, xN, xX, xL, x0, Tryd.f27, Option.getD, sR, sL, cT, cF, bk, lpo]
  conv => arg 4; dsimp only [Fz]
  go_wp2_with fail
  refine hn.out _ ?_
  rfl
end Go.Proofs.YtfoigigbggickaaDoor.Par
namespace Go.Proofs.YtfoigigbggickaaDoor.Par
open Go Go.RowKit Go.Proofs.YtfoigigbggickaaDoor.Mem Go.Proofs.YtfoigigbggickaaDoor.Syn Go.Proofs.YtfoigigbggickaaDoor.Parse
set_option linter.unusedVariables false
set_option linter.unusedSimpArgs false
set_option maxHeartbeats 6400000
set_option maxRecDepth 1000000
attribute [local go_sem ↓] Go.wp_at_zero Go.wp_at_succ
theorem cmp66eB {w wr : World} {Q : Exit → Act → World → Prop} {v0 v3 ov wt v7 v8 v9 v10 v11 v12 v13 v14 v15 : Value} {r : List Value} (hr : r.length = 357) {A B : Code} {sa : Option Addr} {sc n : Nat} (hn0 : (n : Int) = 0)  (hn : Hid (∀ r', r'.length = 357 → Code.wp Tryd.prog B Q (Fz w v0 v3 ov (.slice sa n sc) wt v7 v8 v9 v10 v11 v12 v13 v14 v15 r') wr)) :
    Code.wp Tryd.prog (.seq (sL (sR (cT (sR (sL (sR xBI)))))) (.cond (.tmp 255) A B)) Q (Fz w v0 v3 ov (.slice sa n sc) wt v7 v8 v9 v10 v11 v12 v13 v14 v15 r) wr := by
  have k0 : decide ((0 : Int) < (n : Int)) = false := by rw [hn0]; rfl
  have k3 : ¬ (0 : Int) < (n : Int) := by rw [hn0]; decide
  clear hn0
  revert r
  refine @elim_out 357 _ ?_
  iterate 357 (intro _)
  show Code.wp _ _ _ _ _
  conv => arg 2; dsimp only [xBI, xN, xX, xL, x0, Tryd.f27, Option.getD, sR, sL, cT, cF, bk, lpo]
  conv => arg 4; dsimp only [Fz]
  go_wp2_with fail
  refine hn.out _ ?_
  rfl
theorem cmp66kB {g N c a i o : Nat} {w wr : World} {st : List Ent} {out : List Po} {Q : Exit → Act → World → Prop} {v0 v3 ov wt v7 v8 v9 v10 v11 v12 v13 v14 v15 : Value} {r : List Value} (hr : r.length = 357) {A B : Code} {e : Ent} {g2 sc n : Nat} (M : Hid (Mz g N c a w (i : Int) (o : Int) (.slice (some ⟨g2, 0, none⟩) (n + 1) sc) (e :: st) ov out wr)) (hst : st.length = n) (hl : n ≤ 100000) (hk : e.k ≠ 3) (hn : Hid (∀ r', r'.length = 357 → Code.wp Tryd.prog B Q (Fz w v0 v3 ov (.slice (some ⟨g2, 0, none⟩) (n + 1) sc) wt v7 v8 v9 v10 v11 v12 v13 v14 v15 r') wr)) :
    Code.wp Tryd.prog (.seq (sL (sR (cT (sR (sL (sR xBI)))))) (.cond (.tmp 255) A B)) Q (Fz w v0 v3 ov (.slice (some ⟨g2, 0, none⟩) (n + 1) sc) wt v7 v8 v9 v10 v11 v12 v13 v14 v15 r) wr := by
  obtain ⟨g3, hg3, -, hc, hB2, hgl⟩ := M.out.e.blk (by simp)
  cases hg3
  have HA := OwnE.at (pre := []) M.out.e
  rw [hst] at HA
  obtain ⟨y0, y1, y2⟩ := HA
  have k0 : (0 : Int) < ((n + 1 : Nat) : Int) := by omega
  have e9 : IntKind.i64.wrap (((n + 1 : Nat) : Int) - 1) = (n : Int) := by rw [IntKind.wrap_i64]; omega
  have k1 : (0 : Int) ≤ (n : Int) := by omega
  have k2 : (n : Int) < ((n + 1 : Nat) : Int) := by omega
  clear hst
  have h1 : ((e.k : Int) == 3) = false := by simp; omega
  clear hk
  revert r
  refine @elim_out 357 _ ?_
  iterate 357 (intro _)
  show Code.wp _ _ _ _ _
  conv => arg 2; dsimp only [xBI, xN, xX, xL, x0, Tryd.f27, Option.getD, sR, sL, cT, cF, bk, lpo]
  conv => arg 4; dsimp only [Fz]
  go_wp2_with fail
  refine hn.out _ ?_
  rfl
theorem cmp66sA {g N c a i o : Nat} {w wr : World} {st : List Ent} {out : List Po} {Q : Exit → Act → World → Prop} {v0 v3 ov wt v7 v8 v9 v10 v11 v12 v13 v14 v15 : Value} {r : List Value} (hr : r.length = 357) {A B : Code} {e : Ent} {g2 sc n : Nat} (M : Hid (Mz g N c a w (i : Int) (o : Int) (.slice (some ⟨g2, 0, none⟩) (n + 1) sc) (e :: st) ov out wr)) (hst : st.length = n) (hl : n ≤ 100000) (hk : e.k = 3) (hs : bstr e.v = 3) (hn : Hid (∀ r', r'.length = 357 → Code.wp Tryd.prog A Q (Fz w v0 v3 ov (.slice (some ⟨g2, 0, none⟩) (n + 1) sc) wt v7 v8 v9 v10 v11 v12 v13 v14 v15 r') wr)) :
    Code.wp Tryd.prog (.seq (sL (sR (cT (sR (sL (sR xBI)))))) (.cond (.tmp 255) A B)) Q (Fz w v0 v3 ov (.slice (some ⟨g2, 0, none⟩) (n + 1) sc) wt v7 v8 v9 v10 v11 v12 v13 v14 v15 r) wr := by
  obtain ⟨g3, hg3, -, hc, hB2, hgl⟩ := M.out.e.blk (by simp)
  cases hg3
  have HA := OwnE.at (pre := []) M.out.e
  rw [hst] at HA
  obtain ⟨y0, y1, y2⟩ := HA
  have k0 : (0 : Int) < ((n + 1 : Nat) : Int) := by omega
  have e9 : IntKind.i64.wrap (((n + 1 : Nat) : Int) - 1) = (n : Int) := by rw [IntKind.wrap_i64]; omega
  have k1 : (0 : Int) ≤ (n : Int) := by omega
  have k2 : (n : Int) < ((n + 1 : Nat) : Int) := by omega
  clear hst
  have h1 : ((e.k : Int) == 3) = true := by simp; omega
  have h2 : (bstr e.v == 3) = true := by simpa using hs
  have CB := Hid.mk (bstrS e.v wr)
  clear hk hs
  revert r
  refine @elim_out 357 _ ?_
  iterate 357 (intro _)
  show Code.wp _ _ _ _ _
  conv => arg 2; dsimp only [xBI, xN, xX, xL, x0, Tryd.f27, Option.getD, sR, sL, cT, cF, bk, lpo]
  conv => arg 4; dsimp only [Fz]
  go_wp2_with (go_at_call 47; go_must (refine CB.out.mono ?_; rintro e w' ⟨rfl, hww⟩; rw [hww]; clear hww))
  refine hn.out _ ?_
  rfl
theorem cmp66sB {g N c a i o : Nat} {w wr : World} {st : List Ent} {out : List Po} {Q : Exit → Act → World → Prop} {v0 v3 ov wt v7 v8 v9 v10 v11 v12 v13 v14 v15 : Value} {r : List Value} (hr : r.length = 357) {A B : Code} {e : Ent} {g2 sc n : Nat} (M : Hid (Mz g N c a w (i : Int) (o : Int) (.slice (some ⟨g2, 0, none⟩) (n + 1) sc) (e :: st) ov out wr)) (hst : st.length = n) (hl : n ≤ 100000) (hk : e.k = 3) (hs : bstr e.v ≠ 3) (hn : Hid (∀ r', r'.length = 357 → Code.wp Tryd.prog B Q (Fz w v0 v3 ov (.slice (some ⟨g2, 0, none⟩) (n + 1) sc) wt v7 v8 v9 v10 v11 v12 v13 v14 v15 r') wr)) :
    Code.wp Tryd.prog (.seq (sL (sR (cT (sR (sL (sR xBI)))))) (.cond (.tmp 255) A B)) Q (Fz w v0 v3 ov (.slice (some ⟨g2, 0, none⟩) (n + 1) sc) wt v7 v8 v9 v10 v11 v12 v13 v14 v15 r) wr := by
  obtain ⟨g3, hg3, -, hc, hB2, hgl⟩ := M.out.e.blk (by simp)
  cases hg3
  have HA := OwnE.at (pre := []) M.out.e
  rw [hst] at HA
  obtain ⟨y0, y1, y2⟩ := HA
  have k0 : (0 : Int) < ((n + 1 : Nat) : Int) := by omega
  have e9 : IntKind.i64.wrap (((n + 1 : Nat) : Int) - 1) = (n : Int) := by rw [IntKind.wrap_i64]; omega
  have k1 : (0 : Int) ≤ (n : Int) := by omega
  have k2 : (n : Int) < ((n + 1 : Nat) : Int) := by omega
  clear hst
  have h1 : ((e.k : Int) == 3) = true := by simp; omega
  have h2 : (bstr e.v == 3) = false := by simpa using hs
  have CB := Hid.mk (bstrS e.v wr)
  clear hk hs
  revert r
  refine @elim_out 357 _ ?_
  iterate 357 (intro _)
  show Code.wp _ _ _ _ _
  conv => arg 2; dsimp only [xBI, xN, xX, xL, x0, Tryd.f27, Option.getD, sR, sL, cT, cF, bk, lpo]
  conv => arg 4; dsimp only [Fz]
  go_wp2_with (go_at_call 47; go_must (refine CB.out.mono ?_; rintro e w' ⟨rfl, hww⟩; rw [hww]; clear hww))
  refine hn.out _ ?_
  rfl
end Go.Proofs.YtfoigigbggickaaDoor.Par
