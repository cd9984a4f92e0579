import Derived.Test.YtfoigigbggickaaDoorPq48
namespace Go.Proofs.YtfoigigbggickaaDoor.Par
open Go Go.RowKit Go.Proofs.YtfoigigbggickaaDoor.Mem Go.Proofs.YtfoigigbggickaaDoor.Syn Go.Proofs.YtfoigigbggickaaDoor.Parse
set_option linter.unusedVariables false
set_option linter.unusedSimpArgs false
set_option maxHeartbeats 6400000
set_option maxRecDepth 1000000
attribute [local go_sem ↓] Go.wp_at_zero Go.wp_at_succ
theorem pp13 {t : List UInt8} {g N c : Nat} {w wr : World} {pb : Nat} {s : Sg} {L : List Im} {Q : Exit → Act → World → Prop} {v0 v1 iv v5 v6 v7 : Value} {r : List Value} (hr : r.length = 54) (hT : Hid (Tq t N g wr)) (hN5 : N ≤ 100000) (hi : s.i < N) (M : Hid (Mp t g N c w pb s iv L wr)) (hn : Hid (∀ r' s' wx, r'.length = 54 → s' = ⟨s.i, s.o, fcode 4 (tkT t s.i), (tkT t s.i).at'⟩ → Mp t g N c w pb s' iv L wx → Q .normal (Fp w pb v0 v1 iv v5 v6 v7 r') wx)) :
    Code.wp Tryd.prog (cT (sR (sR (sR (sR (sR zX)))))) Q (Fp w pb v0 v1 iv v5 v6 v7 r) wr := by
  have CT := Hid.mk (failD t g N c s 4 wr hT.out hi hN5)
  unfold Sg.v parV at CT
  have b0 := (blk_cell M.out.b 0).trans rfl
  have b1 := (blk_cell M.out.b 1).trans rfl
  have b2 := (blk_cell M.out.b 2).trans rfl
  have b3 := (blk_cell M.out.b 3).trans rfl
  have b4 := (blk_cell M.out.b 4).trans rfl
  revert r
  refine @elim_out 54 _ ?_
  iterate 54 (intro _)
  show Code.wp _ _ _ _ _
  conv => arg 2; dsimp only [zX, zL, z0, Tryd.f4, Option.getD, sR, sL, cT, cF, bk, lpo]
  conv => arg 4; dsimp only [Fp]
  go_wp2_with fail
  refine CT.out.mono ?_
  rintro e' w2 ⟨s', rfl, hs2, hb⟩
  have M2 := Hid.mk (M.out.below hb)
  clear b0 b1 b2 b3 b4 CT
  have b0 := (blk_cell M2.out.b 0).trans rfl
  have b1 := (blk_cell M2.out.b 1).trans rfl
  have b2 := (blk_cell M2.out.b 2).trans rfl
  have b3 := (blk_cell M2.out.b 3).trans rfl
  have b4 := (blk_cell M2.out.b 4).trans rfl
  have fb0 := blk_unfrozen M2.out.b 0
  have fb1 := blk_unfrozen M2.out.b 1
  have fb2 := blk_unfrozen M2.out.b 2
  have fb3 := blk_unfrozen M2.out.b 3
  have fb4 := blk_unfrozen M2.out.b 4
  go_wp2_with fail
  refine hn.out _ s' _ ?_ hs2.out (M2.out.put s')
  rfl
theorem pp15 {t : List UInt8} {g N c : Nat} {w wr : World} {pb : Nat} {s : Sg} {L : List Im} {Q : Exit → Act → World → Prop} {v0 v1 iv v5 v6 v7 : Value} {r : List Value} (hr : r.length = 54) (hT : Hid (Tq t N g wr)) (hN5 : N ≤ 100000) (hi : s.i < N) (M : Hid (Mp t g N c w pb s iv L wr)) (hn : Hid (∀ r' s' wx, r'.length = 54 → s' = ⟨s.i, s.o, fcode 7 (tkT t s.i), (tkT t s.i).at'⟩ → Mp t g N c w pb s' iv L wx → Q .normal (Fp w pb v0 v1 iv v5 v6 v7 r') wx)) :
    Code.wp Tryd.prog (cT (sR zE)) Q (Fp w pb v0 v1 iv v5 v6 v7 r) wr := by
  have CT := Hid.mk (failD t g N c s 7 wr hT.out hi hN5)
  unfold Sg.v parV at CT
  have b0 := (blk_cell M.out.b 0).trans rfl
  have b1 := (blk_cell M.out.b 1).trans rfl
  have b2 := (blk_cell M.out.b 2).trans rfl
  have b3 := (blk_cell M.out.b 3).trans rfl
  have b4 := (blk_cell M.out.b 4).trans rfl
  revert r
  refine @elim_out 54 _ ?_
  iterate 54 (intro _)
  show Code.wp _ _ _ _ _
  conv => arg 2; dsimp only [zE, zX, zL, z0, Tryd.f4, Option.getD, sR, sL, cT, cF, bk, lpo]
  conv => arg 4; dsimp only [Fp]
  go_wp2_with fail
  refine CT.out.mono ?_
  rintro e' w2 ⟨s', rfl, hs2, hb⟩
  have M2 := Hid.mk (M.out.below hb)
  clear b0 b1 b2 b3 b4 CT
  have b0 := (blk_cell M2.out.b 0).trans rfl
  have b1 := (blk_cell M2.out.b 1).trans rfl
  have b2 := (blk_cell M2.out.b 2).trans rfl
  have b3 := (blk_cell M2.out.b 3).trans rfl
  have b4 := (blk_cell M2.out.b 4).trans rfl
  have fb0 := blk_unfrozen M2.out.b 0
  have fb1 := blk_unfrozen M2.out.b 1
  have fb2 := blk_unfrozen M2.out.b 2
  have fb3 := blk_unfrozen M2.out.b 3
  have fb4 := blk_unfrozen M2.out.b 4
  go_wp2_with fail
  refine hn.out _ s' _ ?_ hs2.out (M2.out.put s')
  rfl
theorem pp14A {w wr : World} {pb : Nat} {Q : Exit → Act → World → Prop} {v0 v1 v5 v6 v7 : Value} {r : List Value} (hr : r.length = 54) {A B : Code} {ia : Option Addr} {n ic : Nat} (hk : n = 100) (hn : Hid (∀ r', r'.length = 54 → Code.wp Tryd.prog A Q (Fp w pb v0 v1 (.slice ia n ic) v5 v6 v7 r') wr)) :
    Code.wp Tryd.prog (.seq (sL zE) (.cond (.tmp 43) A B)) Q (Fp w pb v0 v1 (.slice ia n ic) v5 v6 v7 r) wr := by
  have h1 : ((n : Int) == 100) = true := by simp; omega
  clear hk
  revert r
  refine @elim_out 54 _ ?_
  iterate 54 (intro _)
  show Code.wp _ _ _ _ _
  conv => arg 2; dsimp only [zE, zX, zL, z0, Tryd.f4, Option.getD, sR, sL, cT, cF, bk, lpo]
  conv => arg 4; dsimp only [Fp]
  go_wp2_with fail
  refine hn.out _ ?_
  rfl
theorem pp14B {w wr : World} {pb : Nat} {Q : Exit → Act → World → Prop} {v0 v1 v5 v6 v7 : Value} {r : List Value} (hr : r.length = 54) {A B : Code} {ia : Option Addr} {n ic : Nat} (hk : n ≠ 100) (hn : Hid (∀ r', r'.length = 54 → Code.wp Tryd.prog B Q (Fp w pb v0 v1 (.slice ia n ic) v5 v6 v7 r') wr)) :
    Code.wp Tryd.prog (.seq (sL zE) (.cond (.tmp 43) A B)) Q (Fp w pb v0 v1 (.slice ia n ic) v5 v6 v7 r) wr := by
  have h1 : ((n : Int) == 100) = false := by simp; omega
  clear hk
  revert r
  refine @elim_out 54 _ ?_
  iterate 54 (intro _)
  show Code.wp _ _ _ _ _
  conv => arg 2; dsimp only [zE, zX, zL, z0, Tryd.f4, Option.getD, sR, sL, cT, cF, bk, lpo]
  conv => arg 4; dsimp only [Fp]
  go_wp2_with fail
  refine hn.out _ ?_
  rfl
theorem pp16 {t : List UInt8} {g N c : Nat} {w wr : World} {pb : Nat} {s : Sg} {L : List Im} {Q : Exit → Act → World → Prop} {v0 v1 iv v5 v6 v7 : Value} {r : List Value} (hr : r.length = 54) (M : Hid (Mp t g N c w pb s iv L wr)) (hn : Hid (∀ r' bi wx, r'.length = 54 → Below wr.heap.size wr wx → wr.heap.size ≤ bi → bi ≠ pb → bi ≠ w.heap.size → w.heap.size ≤ bi → wx.heap[bi]? = some (.cells #[.int .i64 0, .string ⟨#[]⟩, .slice none 0 0, .slice none 0 0, .int .i64 0, .int .i64 0, .int .i64 0] 45) → Q .normal (Fp w pb v0 v1 iv v5 v6 (.pointer (some ⟨bi, 0, none⟩)) r') wx)) :
    Code.wp Tryd.prog (sL zI) Q (Fp w pb v0 v1 iv v5 v6 v7 r) wr := by
  have hb1 : wr.heap.size ≠ pb := by have := blk_lt M.out.b; omega
  have hb2 : wr.heap.size ≠ w.heap.size := by have := blk_lt M.out.r; omega
  have hb3 := M.out.bel.size
  revert r
  refine @elim_out 54 _ ?_
  iterate 54 (intro _)
  show Code.wp _ _ _ _ _
  conv => arg 2; dsimp only [zI, zE, zX, zL, z0, Tryd.f4, Option.getD, sR, sL, cT, cF, bk, lpo]
  conv => arg 4; dsimp only [Fp]
  go_wp2_with fail
  refine hn.out _ _ _ ?_ (below_alloc' (Below.refl _ _) _) (Nat.le_refl _) hb1 hb2 hb3 (blk_new _ _)
  rfl
end Go.Proofs.YtfoigigbggickaaDoor.Par
namespace Go.Proofs.YtfoigigbggickaaDoor.Par
open Go Go.RowKit Go.Proofs.YtfoigigbggickaaDoor.Mem Go.Proofs.YtfoigigbggickaaDoor.Syn Go.Proofs.YtfoigigbggickaaDoor.Parse
set_option linter.unusedVariables false
set_option linter.unusedSimpArgs false
set_option maxHeartbeats 6400000
set_option maxRecDepth 1000000
attribute [local go_sem ↓] Go.wp_at_zero Go.wp_at_succ
theorem pp17 {t : List UInt8} {g N c : Nat} {w wr : World} {pb : Nat} {s : Sg} {L : List Im} {Q : Exit → Act → World → Prop} {v0 v1 iv v5 : Value} {r : List Value} (hr : r.length = 54) {K bi : Nat} (B1 : Hid (wr.heap[bi]? = some (.cells #[.int .i64 0, .string ⟨#[]⟩, .slice none 0 0, .slice none 0 0, .int .i64 0, .int .i64 0, .int .i64 0] 45))) (hT : Hid (Tq t N g wr)) (hN : Hid (Nf t N)) (hi : s.i < N) (he : s.e = 0) (ho : s.o ≤ 2000) (hK : (tkT t s.i).k = K + 15) (h1 : 1 ≤ K) (h9 : K ≤ 9) (hbp : bi ≠ pb) (hbw : bi ≠ w.heap.size) (hwb : w.heap.size ≤ bi) (hfar : iv.ownBlock ≠ some bi) (M : Hid (Mp t g N c w pb s iv L wr)) (hn : Hid (∀ r' (s' : Sg) (im : Im) ea en ec fa fn fc wx, r'.length = 54 → s'.i < N → s'.o ≤ 2000 → (den (tkT t) s').bnd (fun z => Rs.ok (im, z, s'.o)) = itemP (tkT t) (fuelT t) s.i s.o → OwnO w.heap.size wx (.slice ea en ec) im.E → OwnO w.heap.size wx (.slice fa fn fc) im.F → Mp t g N c w pb s' iv L wx → wx.heap[bi]? = some (.cells #[.int .i64 im.k, .string ⟨im.n.toArray⟩, .slice ea en ec, .slice fa fn fc, .int .i64 im.K, .int .i64 im.lo, .int .i64 im.hi] 45) → Q .normal (Fp w pb v0 v1 iv v5 (.int .i64 (K : Int)) (.pointer (some ⟨bi, 0, none⟩)) r') wx)) :
    Code.wp Tryd.prog (sL (sR zI)) Q (Fp w pb v0 v1 iv v5 (.int .i64 (K : Int)) (.pointer (some ⟨bi, 0, none⟩)) r) wr := by
  have hs : s = ⟨s.i, s.o, 0, s.a⟩ := by obtain ⟨i, o, e, a⟩ := s; simp only at he; rw [he]
  have CT := Hid.mk (itemD t g N c s.i s.o s.a K wr hT.out hN.out hi ho hK h1 h9)
  rw [← hs] at CT
  unfold ItD Sg.v parV itC at CT
  clear hs he h1 h9 hK
  have b0 := (blk_cell M.out.b 0).trans rfl
  have b1 := (blk_cell M.out.b 1).trans rfl
  have b2 := (blk_cell M.out.b 2).trans rfl
  have b3 := (blk_cell M.out.b 3).trans rfl
  have b4 := (blk_cell M.out.b 4).trans rfl
  revert r
  refine @elim_out 54 _ ?_
  iterate 54 (intro _)
  show Code.wp _ _ _ _ _
  conv => arg 2; dsimp only [zI, zE, zX, zL, z0, Tryd.f4, Option.getD, sR, sL, cT, cF, bk, lpo]
  conv => arg 4; dsimp only [Fp]
  go_wp2_with fail
  refine CT.out.mono ?_
  rintro e' w2 ⟨s', im, vE, vF, rfl, hs1, hs2, hE, hF, hs3, hb⟩
  obtain ⟨ea, ec, rfl⟩ := oshape hE
  obtain ⟨fa, fc, rfl⟩ := oshape hF
  have HE := Hid.mk (hE.lo M.out.bel.size)
  have HF := Hid.mk (hF.lo M.out.bel.size)
  have HS2 := Hid.mk hs2
  have HS3 := Hid.mk hs3
  obtain ⟨en, hen⟩ : ∃ n, n = im.E.length := ⟨_, rfl⟩
  obtain ⟨fn, hfn⟩ : ∃ n, n = im.F.length := ⟨_, rfl⟩
  rw [← hen] at HE ⊢
  rw [← hfn] at HF ⊢
  clear hen hfn hE hF hs2 hs3
  have M2 := Hid.mk (M.out.below hb)
  have B2 := Hid.mk (blk_below B1.out hb)
  have nbp : ¬ pb = bi := fun e => hbp e.symm
  clear b0 b1 b2 b3 b4 CT hb
  have b0 := (blk_cell M2.out.b 0).trans rfl
  have b1 := (blk_cell M2.out.b 1).trans rfl
  have b2 := (blk_cell M2.out.b 2).trans rfl
  have b3 := (blk_cell M2.out.b 3).trans rfl
  have b4 := (blk_cell M2.out.b 4).trans rfl
  have fb0 := blk_unfrozen M2.out.b 0
  have fb1 := blk_unfrozen M2.out.b 1
  have fb2 := blk_unfrozen M2.out.b 2
  have fb3 := blk_unfrozen M2.out.b 3
  have fb4 := blk_unfrozen M2.out.b 4
  have q0 := (blk_cell B2.out 0).trans rfl
  have q1 := (blk_cell B2.out 1).trans rfl
  have q2 := (blk_cell B2.out 2).trans rfl
  have q3 := (blk_cell B2.out 3).trans rfl
  have q4 := (blk_cell B2.out 4).trans rfl
  have q5 := (blk_cell B2.out 5).trans rfl
  have q6 := (blk_cell B2.out 6).trans rfl
  have fq0 := blk_unfrozen B2.out 0
  have fq1 := blk_unfrozen B2.out 1
  have fq2 := blk_unfrozen B2.out 2
  have fq3 := blk_unfrozen B2.out 3
  have fq4 := blk_unfrozen B2.out 4
  have fq5 := blk_unfrozen B2.out 5
  have fq6 := blk_unfrozen B2.out 6
  go_wp2_with fail
  have M3 := M2.out.put s'
  have B3 : (((((w2.setCell ⟨pb, 0, none⟩ (.slice (some ⟨g, 0, none⟩) N c)).setCell ⟨pb, 1, none⟩ (.int .i64 (s'.i : Int))).setCell ⟨pb, 2, none⟩ (.int .i64 (s'.o : Int))).setCell ⟨pb, 3, none⟩ (.int .i64 s'.e)).setCell ⟨pb, 4, none⟩ (.int .i64 (s'.a : Int))).heap[bi]? = some (.cells #[.int .i64 0, .string ⟨#[]⟩, .slice none 0 0, .slice none 0 0, .int .i64 0, .int .i64 0, .int .i64 0] 45) := blk_set_other (blk_set_other (blk_set_other (blk_set_other (blk_set_other B2.out hbp _) hbp _) hbp _) hbp _) hbp _
  have kp : ∀ v L, OwnO w.heap.size w2 v L → OwnO w.heap.size (((((w2.setCell ⟨pb, 0, none⟩ (.slice (some ⟨g, 0, none⟩) N c)).setCell ⟨pb, 1, none⟩ (.int .i64 (s'.i : Int))).setCell ⟨pb, 2, none⟩ (.int .i64 (s'.o : Int))).setCell ⟨pb, 3, none⟩ (.int .i64 s'.e)).setCell ⟨pb, 4, none⟩ (.int .i64 (s'.a : Int))) v L := fun v L o => row_set'' (row_set'' (row_set'' (row_set'' (row_set'' o M2.out.b (by decide)) (blk_set M2.out.b 0 _) (by decide)) (blk_set (blk_set M2.out.b 0 _) 1 _) (by decide)) (blk_set (blk_set (blk_set M2.out.b 0 _) 1 _) 2 _) (by decide)) (blk_set (blk_set (blk_set (blk_set M2.out.b 0 _) 1 _) 2 _) 3 _) (by decide)
  obtain ⟨Z, hZ⟩ : ∃ Z, Z = (((((w2.setCell ⟨pb, 0, none⟩ (.slice (some ⟨g, 0, none⟩) N c)).setCell ⟨pb, 1, none⟩ (.int .i64 (s'.i : Int))).setCell ⟨pb, 2, none⟩ (.int .i64 (s'.o : Int))).setCell ⟨pb, 3, none⟩ (.int .i64 s'.e)).setCell ⟨pb, 4, none⟩ (.int .i64 (s'.a : Int))) := ⟨_, rfl⟩
  rw [← hZ] at M3 B3 kp ⊢
  clear hZ
  have m0 := M3.seti (k := 0) (u := .int .i64 im.k) B3 hbp hbw hwb hfar
  have e0 := blk_set B3 0 (.int .i64 im.k)
  have e1 := blk_set e0 1 (.string ⟨im.n.toArray⟩)
  have e2 := blk_set e1 2 (.slice ea en ec)
  have e3 := blk_set e2 3 (.slice fa fn fc)
  have e4 := blk_set e3 4 (.int .i64 im.K)
  have e5 := blk_set e4 5 (.int .i64 im.lo)
  have e6 := blk_set e5 6 (.int .i64 im.hi)
  have m1 := m0.seti (k := 1) (u := .string ⟨im.n.toArray⟩) e0 hbp hbw hwb hfar
  have m2 := m1.seti (k := 2) (u := .slice ea en ec) e1 hbp hbw hwb hfar
  have m3 := m2.seti (k := 3) (u := .slice fa fn fc) e2 hbp hbw hwb hfar
  have m4 := m3.seti (k := 4) (u := .int .i64 im.K) e3 hbp hbw hwb hfar
  have m5 := m4.seti (k := 5) (u := .int .i64 im.lo) e4 hbp hbw hwb hfar
  have m6 := m5.seti (k := 6) (u := .int .i64 im.hi) e5 hbp hbw hwb hfar
  have kq : ∀ v L, OwnO w.heap.size Z v L → OwnO w.heap.size (((((((Z.setCell ⟨bi, 0, none⟩ (.int .i64 im.k)).setCell ⟨bi, 1, none⟩ (.string ⟨im.n.toArray⟩)).setCell ⟨bi, 2, none⟩ (.slice ea en ec)).setCell ⟨bi, 3, none⟩ (.slice fa fn fc)).setCell ⟨bi, 4, none⟩ (.int .i64 im.K)).setCell ⟨bi, 5, none⟩ (.int .i64 im.lo)).setCell ⟨bi, 6, none⟩ (.int .i64 im.hi)) v L := fun v L o => row_set'' (row_set'' (row_set'' (row_set'' (row_set'' (row_set'' (row_set'' o B3 (by decide)) e0 (by decide)) e1 (by decide)) e2 (by decide)) e3 (by decide)) e4 (by decide)) e5 (by decide)
  refine hn.out _ s' im ea en ec fa fn fc _ ?_ hs1 HS2.out HS3.out (kq _ _ (kp _ _ HE.out)) (kq _ _ (kp _ _ HF.out)) m6 e6
  rfl
theorem pp18 {t : List UInt8} {g N c : Nat} {w wr : World} {pb : Nat} {s : Sg} {L : List Im} {Q : Exit → Act → World → Prop} {v0 v1 v5 v6 : Value} {r : List Value} (hr : r.length = 54) {im : Im} {ea fa ia : Option Addr} {en ec fn fc ic bi : Nat} (B1 : Hid (wr.heap[bi]? = some (.cells #[.int .i64 im.k, .string ⟨im.n.toArray⟩, .slice ea en ec, .slice fa fn fc, .int .i64 im.K, .int .i64 im.lo, .int .i64 im.hi] 45))) (M : Hid (Mp t g N c w pb s (.slice ia L.length ic) L wr)) (hl : L.length ≤ 100) (hE : Hid (OwnO w.heap.size wr (.slice ea en ec) im.E)) (hF : Hid (OwnO w.heap.size wr (.slice fa fn fc) im.F)) (hn : Hid (∀ r' iv' wx, r'.length = 54 → Mp t g N c w pb s iv' (L ++ [im]) wx → Q .normal (Fp w pb v0 v1 (iv') v5 v6 (.pointer (some ⟨bi, 0, none⟩)) r') wx)) :
    Code.wp Tryd.prog (sR (sR zI)) Q (Fp w pb v0 v1 (.slice ia L.length ic) v5 v6 (.pointer (some ⟨bi, 0, none⟩)) r) wr := by
  obtain ⟨i0, hi0, hz0, hz1, hz2⟩ := info_parts infoI
  have MA := Hid.mk (M.out.below (below_alloc' (Below.refl _ _) (.cells (itC im (.slice ea en ec) (.slice fa fn fc)).toArray 45)))
  obtain ⟨cs, hcs, hits⟩ := MA.out.it
  have R2 := Hid.mk hcs
  have HI := Hid.mk hits
  clear hcs hits
  have hBs : w.heap.size ≤ wr.heap.size := M.out.bel.size
  have q0 := (blk_cell B1.out 0).trans rfl
  have q1 := (blk_cell B1.out 1).trans rfl
  have q2 := (blk_cell B1.out 2).trans rfl
  have q3 := (blk_cell B1.out 3).trans rfl
  have q4 := (blk_cell B1.out 4).trans rfl
  have q5 := (blk_cell B1.out 5).trans rfl
  have q6 := (blk_cell B1.out 6).trans rfl
  revert r
  refine @elim_out 54 _ ?_
  iterate 54 (intro _)
  show Code.wp _ _ _ _ _
  conv => arg 2; dsimp only [zI, zE, zX, zL, z0, Tryd.f4, Option.getD, sR, sL, cT, cF, bk, lpo]
  conv => arg 4; dsimp only [Fp]
  go_wp2_with (first | (at_builtin; go_must (refine wpList_append_own_at _ rfl _ _ 23 rfl w.heap.size 45 i0 (.agg #[.int .i64 0, .string ⟨#[]⟩, .slice none 0 0, .slice none 0 0, .int .i64 0, .int .i64 0, .int .i64 0]) 7 96 Tryd.underlying23 hi0 hz0 hz1 hz2 rfl (by decide) _ _ _ rfl R2.out ⟨wr.heap.size, 0, none⟩ 1 1 (itC im (.slice ea en ec) (.slice fa fn fc)) rfl rfl (newsI im _ _ _ rfl) (oneI im _ _ _ _ _ _) (by unfold maxLen; omega) (by omega) (by simp; omega) ?_)) | (refine wpList_build1 rfl 23 45 _ rfl i0 _ Tryd.underlying23 hi0 hz0 7 hz1 (itC im (.slice ea en ec) (.slice fa fn fc)) rfl (fillI _ _ _ _ _ _ _ _ _ _ _) (by decide) (by decide) ?_))
  intro v' w4 hown hgrow _ hat
  have M4 := Hid.mk (MA.out.snoc (im := im) R2.out HI.out (hE.out.below (below_alloc' (Below.refl _ _) _)) (hF.out.below (below_alloc' (Below.refl _ _) _)) hown hgrow)
  clear hown hgrow hat R2 HI MA M
  refine Hid.out ?_
  refine Lib.hid ?_
  go_wp2_with fail
  refine hn.out _ _ _ ?_ M4.out
  rfl
end Go.Proofs.YtfoigigbggickaaDoor.Par
