import Derived.Test.YtfoigigbggickaaDoorPq42
namespace Go.Proofs.YtfoigigbggickaaDoor.Par
open Go Go.RowKit Go.Proofs.YtfoigigbggickaaDoor.Mem Go.Proofs.YtfoigigbggickaaDoor.Syn Go.Proofs.YtfoigigbggickaaDoor.Parse
set_option linter.unusedVariables false
set_option linter.unusedSimpArgs false
set_option maxHeartbeats 6400000
set_option maxRecDepth 1000000
attribute [local go_sem ↓] Go.wp_at_zero Go.wp_at_succ
theorem itTake9 {t : List UInt8} {g N c : Nat} {w wr : World} {s : Sg} {C : Array Value} {k : Int} {Q : Exit → Act → World → Prop} {v0 v3 v7 v8 v9 v10 v11 v12 : Value} {r : List Value} (hr : r.length = 122) (hT : Hid (Tq t N g w)) (hN : Hid (Nf t N)) (hi : s.i < N) (M : Hid (Mj g N c w s C wr))  (hn : Hid (∀ r' s'  wx, r'.length = 122 → s'.i < N → s'.o = s.o → den (tkT t) s' = (den (tkT t) s).bnd (exp (tkT t) 13) → Mj g N c w s' C wx → KR w wr wx → Q .normal (Fi w k v0 v3 v7 v8 v9 v10 v11 v12 r') wx)) :
    Code.wp Tryd.prog (sR (sR (sR (sR yLT)))) Q (Fi w k v0 v3 v7 v8 v9 v10 v11 v12 r) wr := by
  have CT := Hid.mk (takeD t g N c s 13 wr (hT.out.below M.out.bel) hN.out hi (by omega) (by omega))
  unfold Sg.v parV at CT
  have b0 := (blk_cell M.out.b 0).trans rfl
  have b1 := (blk_cell M.out.b 1).trans rfl
  have b2 := (blk_cell M.out.b 2).trans rfl
  have b3 := (blk_cell M.out.b 3).trans rfl
  have b4 := (blk_cell M.out.b 4).trans rfl
  revert r
  refine @elim_out 122 _ ?_
  iterate 122 (intro _)
  show Code.wp _ _ _ _ _
  conv => arg 2; dsimp only [yLT, y0, Tryd.f15, Option.getD, sR, sL, cT, cF, bk, lpo]
  conv => arg 4; dsimp only [Fi]
  go_wp2_with fail
  refine (show Calls Tryd.prog 25 #[.agg #[.slice (some ⟨g, 0, none⟩) N c, .int .i64 (s.i : Int), .int .i64 (s.o : Int), .int .i64 s.e, .int .i64 (s.a : Int)], .string ⟨#[61]⟩] wr _ from CT.out).mono ?_
  rintro e' w2 ⟨s', rfl, hs1, hs2, hs3, hb⟩
  have M2 := Hid.mk (M.out.below hb)
  have K2 := Hid.mk (KR.below (w := w) hb)
  have HS2 := Hid.mk hs2
  have HS3 := Hid.mk hs3
  clear b0 b1 b2 b3 b4 CT hs2 hs3
  have b0 := (blk_cell M2.out.b 0).trans rfl
  have b1 := (blk_cell M2.out.b 1).trans rfl
  have b2 := (blk_cell M2.out.b 2).trans rfl
  have b3 := (blk_cell M2.out.b 3).trans rfl
  have b4 := (blk_cell M2.out.b 4).trans rfl
  have fb0 := blk_unfrozen M2.out.b 0
  have fb1 := blk_unfrozen M2.out.b 1
  have fb2 := blk_unfrozen M2.out.b 2
  have fb3 := blk_unfrozen M2.out.b 3
  have fb4 := blk_unfrozen M2.out.b 4
  go_wp2_with fail
  refine hn.out _ s' _ ?_ hs1 HS2.out HS3.out (M2.out.put s') (K2.out.trans (M2.out.kput s'))
  rfl
theorem itTake18 {t : List UInt8} {g N c : Nat} {w wr : World} {s : Sg} {C : Array Value} {k : Int} {Q : Exit → Act → World → Prop} {v0 v3 v7 v8 v9 v10 v11 v12 : Value} {r : List Value} (hr : r.length = 122) (hT : Hid (Tq t N g w)) (hN : Hid (Nf t N)) (hi : s.i < N) (M : Hid (Mj g N c w s C wr))  (hn : Hid (∀ r' s'  wx, r'.length = 122 → s'.i < N → s'.o = s.o → den (tkT t) s' = (den (tkT t) s).bnd (exp (tkT t) 43) → Mj g N c w s' C wx → KR w wr wx → Q .normal (Fi w k v0 v3 v7 v8 v9 v10 v11 v12 r') wx)) :
    Code.wp Tryd.prog (sL yFR) Q (Fi w k v0 v3 v7 v8 v9 v10 v11 v12 r) wr := by
  have CT := Hid.mk (takeD t g N c s 43 wr (hT.out.below M.out.bel) hN.out hi (by omega) (by omega))
  unfold Sg.v parV at CT
  have b0 := (blk_cell M.out.b 0).trans rfl
  have b1 := (blk_cell M.out.b 1).trans rfl
  have b2 := (blk_cell M.out.b 2).trans rfl
  have b3 := (blk_cell M.out.b 3).trans rfl
  have b4 := (blk_cell M.out.b 4).trans rfl
  revert r
  refine @elim_out 122 _ ?_
  iterate 122 (intro _)
  show Code.wp _ _ _ _ _
  conv => arg 2; dsimp only [yFR, y0, Tryd.f15, Option.getD, sR, sL, cT, cF, bk, lpo]
  conv => arg 4; dsimp only [Fi]
  go_wp2_with fail
  refine (show Calls Tryd.prog 25 #[.agg #[.slice (some ⟨g, 0, none⟩) N c, .int .i64 (s.i : Int), .int .i64 (s.o : Int), .int .i64 s.e, .int .i64 (s.a : Int)], .string ⟨#[102, 114, 111, 109]⟩] wr _ from CT.out).mono ?_
  rintro e' w2 ⟨s', rfl, hs1, hs2, hs3, hb⟩
  have M2 := Hid.mk (M.out.below hb)
  have K2 := Hid.mk (KR.below (w := w) hb)
  have HS2 := Hid.mk hs2
  have HS3 := Hid.mk hs3
  clear b0 b1 b2 b3 b4 CT hs2 hs3
  have b0 := (blk_cell M2.out.b 0).trans rfl
  have b1 := (blk_cell M2.out.b 1).trans rfl
  have b2 := (blk_cell M2.out.b 2).trans rfl
  have b3 := (blk_cell M2.out.b 3).trans rfl
  have b4 := (blk_cell M2.out.b 4).trans rfl
  have fb0 := blk_unfrozen M2.out.b 0
  have fb1 := blk_unfrozen M2.out.b 1
  have fb2 := blk_unfrozen M2.out.b 2
  have fb3 := blk_unfrozen M2.out.b 3
  have fb4 := blk_unfrozen M2.out.b 4
  go_wp2_with fail
  refine hn.out _ s' _ ?_ hs1 HS2.out HS3.out (M2.out.put s') (K2.out.trans (M2.out.kput s'))
  rfl
theorem itTake21 {t : List UInt8} {g N c : Nat} {w wr : World} {s : Sg} {C : Array Value} {k : Int} {Q : Exit → Act → World → Prop} {v0 v3 v7 v8 v9 v10 v11 v12 : Value} {r : List Value} (hr : r.length = 122) (hT : Hid (Tq t N g w)) (hN : Hid (Nf t N)) (hi : s.i < N) (M : Hid (Mj g N c w s C wr))  (hn : Hid (∀ r' s'  wx, r'.length = 122 → s'.i < N → s'.o = s.o → den (tkT t) s' = (den (tkT t) s).bnd (exp (tkT t) 44) → Mj g N c w s' C wx → KR w wr wx → Q .normal (Fi w k v0 v3 v7 v8 v9 v10 v11 v12 r') wx)) :
    Code.wp Tryd.prog (sL yIN) Q (Fi w k v0 v3 v7 v8 v9 v10 v11 v12 r) wr := by
  have CT := Hid.mk (takeD t g N c s 44 wr (hT.out.below M.out.bel) hN.out hi (by omega) (by omega))
  unfold Sg.v parV at CT
  have b0 := (blk_cell M.out.b 0).trans rfl
  have b1 := (blk_cell M.out.b 1).trans rfl
  have b2 := (blk_cell M.out.b 2).trans rfl
  have b3 := (blk_cell M.out.b 3).trans rfl
  have b4 := (blk_cell M.out.b 4).trans rfl
  revert r
  refine @elim_out 122 _ ?_
  iterate 122 (intro _)
  show Code.wp _ _ _ _ _
  conv => arg 2; dsimp only [yIN, y0, Tryd.f15, Option.getD, sR, sL, cT, cF, bk, lpo]
  conv => arg 4; dsimp only [Fi]
  go_wp2_with fail
  refine (show Calls Tryd.prog 25 #[.agg #[.slice (some ⟨g, 0, none⟩) N c, .int .i64 (s.i : Int), .int .i64 (s.o : Int), .int .i64 s.e, .int .i64 (s.a : Int)], .string ⟨#[105, 110]⟩] wr _ from CT.out).mono ?_
  rintro e' w2 ⟨s', rfl, hs1, hs2, hs3, hb⟩
  have M2 := Hid.mk (M.out.below hb)
  have K2 := Hid.mk (KR.below (w := w) hb)
  have HS2 := Hid.mk hs2
  have HS3 := Hid.mk hs3
  clear b0 b1 b2 b3 b4 CT hs2 hs3
  have b0 := (blk_cell M2.out.b 0).trans rfl
  have b1 := (blk_cell M2.out.b 1).trans rfl
  have b2 := (blk_cell M2.out.b 2).trans rfl
  have b3 := (blk_cell M2.out.b 3).trans rfl
  have b4 := (blk_cell M2.out.b 4).trans rfl
  have fb0 := blk_unfrozen M2.out.b 0
  have fb1 := blk_unfrozen M2.out.b 1
  have fb2 := blk_unfrozen M2.out.b 2
  have fb3 := blk_unfrozen M2.out.b 3
  have fb4 := blk_unfrozen M2.out.b 4
  go_wp2_with fail
  refine hn.out _ s' _ ?_ hs1 HS2.out HS3.out (M2.out.put s') (K2.out.trans (M2.out.kput s'))
  rfl
theorem itTake23 {t : List UInt8} {g N c : Nat} {w wr : World} {s : Sg} {C : Array Value} {k : Int} {Q : Exit → Act → World → Prop} {v0 v3 v7 v8 v9 v10 v11 v12 : Value} {r : List Value} (hr : r.length = 122) (hT : Hid (Tq t N g w)) (hN : Hid (Nf t N)) (hi : s.i < N) (M : Hid (Mj g N c w s C wr))  (hn : Hid (∀ r' s'  wx, r'.length = 122 → s'.i < N → s'.o = s.o → den (tkT t) s' = (den (tkT t) s).bnd (exp (tkT t) 7) → Mj g N c w s' C wx → KR w wr wx → Q .normal (Fi w k v0 v3 v7 v8 v9 v10 v11 v12 r') wx)) :
    Code.wp Tryd.prog (sL (sR (sR yIN))) Q (Fi w k v0 v3 v7 v8 v9 v10 v11 v12 r) wr := by
  have CT := Hid.mk (takeD t g N c s 7 wr (hT.out.below M.out.bel) hN.out hi (by omega) (by omega))
  unfold Sg.v parV at CT
  have b0 := (blk_cell M.out.b 0).trans rfl
  have b1 := (blk_cell M.out.b 1).trans rfl
  have b2 := (blk_cell M.out.b 2).trans rfl
  have b3 := (blk_cell M.out.b 3).trans rfl
  have b4 := (blk_cell M.out.b 4).trans rfl
  revert r
  refine @elim_out 122 _ ?_
  iterate 122 (intro _)
  show Code.wp _ _ _ _ _
  conv => arg 2; dsimp only [yIN, y0, Tryd.f15, Option.getD, sR, sL, cT, cF, bk, lpo]
  conv => arg 4; dsimp only [Fi]
  go_wp2_with fail
  refine (show Calls Tryd.prog 25 #[.agg #[.slice (some ⟨g, 0, none⟩) N c, .int .i64 (s.i : Int), .int .i64 (s.o : Int), .int .i64 s.e, .int .i64 (s.a : Int)], .string ⟨#[46, 46]⟩] wr _ from CT.out).mono ?_
  rintro e' w2 ⟨s', rfl, hs1, hs2, hs3, hb⟩
  have M2 := Hid.mk (M.out.below hb)
  have K2 := Hid.mk (KR.below (w := w) hb)
  have HS2 := Hid.mk hs2
  have HS3 := Hid.mk hs3
  clear b0 b1 b2 b3 b4 CT hs2 hs3
  have b0 := (blk_cell M2.out.b 0).trans rfl
  have b1 := (blk_cell M2.out.b 1).trans rfl
  have b2 := (blk_cell M2.out.b 2).trans rfl
  have b3 := (blk_cell M2.out.b 3).trans rfl
  have b4 := (blk_cell M2.out.b 4).trans rfl
  have fb0 := blk_unfrozen M2.out.b 0
  have fb1 := blk_unfrozen M2.out.b 1
  have fb2 := blk_unfrozen M2.out.b 2
  have fb3 := blk_unfrozen M2.out.b 3
  have fb4 := blk_unfrozen M2.out.b 4
  go_wp2_with fail
  refine hn.out _ s' _ ?_ hs1 HS2.out HS3.out (M2.out.put s') (K2.out.trans (M2.out.kput s'))
  rfl
theorem itTake26 {t : List UInt8} {g N c : Nat} {w wr : World} {s : Sg} {C : Array Value} {k : Int} {Q : Exit → Act → World → Prop} {v0 v3 v7 v8 v9 v10 v11 v12 : Value} {r : List Value} (hr : r.length = 122) (hT : Hid (Tq t N g w)) (hN : Hid (Nf t N)) (hi : s.i < N) (M : Hid (Mj g N c w s C wr))  (hn : Hid (∀ r' s'  wx, r'.length = 122 → s'.i < N → s'.o = s.o → den (tkT t) s' = (den (tkT t) s).bnd (exp (tkT t) 45) → Mj g N c w s' C wx → KR w wr wx → Q .normal (Fi w k v0 v3 v7 v8 v9 v10 v11 v12 r') wx)) :
    Code.wp Tryd.prog (sL yTH) Q (Fi w k v0 v3 v7 v8 v9 v10 v11 v12 r) wr := by
  have CT := Hid.mk (takeD t g N c s 45 wr (hT.out.below M.out.bel) hN.out hi (by omega) (by omega))
  unfold Sg.v parV at CT
  have b0 := (blk_cell M.out.b 0).trans rfl
  have b1 := (blk_cell M.out.b 1).trans rfl
  have b2 := (blk_cell M.out.b 2).trans rfl
  have b3 := (blk_cell M.out.b 3).trans rfl
  have b4 := (blk_cell M.out.b 4).trans rfl
  revert r
  refine @elim_out 122 _ ?_
  iterate 122 (intro _)
  show Code.wp _ _ _ _ _
  conv => arg 2; dsimp only [yTH, y0, Tryd.f15, Option.getD, sR, sL, cT, cF, bk, lpo]
  conv => arg 4; dsimp only [Fi]
  go_wp2_with fail
  refine (show Calls Tryd.prog 25 #[.agg #[.slice (some ⟨g, 0, none⟩) N c, .int .i64 (s.i : Int), .int .i64 (s.o : Int), .int .i64 s.e, .int .i64 (s.a : Int)], .string ⟨#[116, 104, 101, 110]⟩] wr _ from CT.out).mono ?_
  rintro e' w2 ⟨s', rfl, hs1, hs2, hs3, hb⟩
  have M2 := Hid.mk (M.out.below hb)
  have K2 := Hid.mk (KR.below (w := w) hb)
  have HS2 := Hid.mk hs2
  have HS3 := Hid.mk hs3
  clear b0 b1 b2 b3 b4 CT hs2 hs3
  have b0 := (blk_cell M2.out.b 0).trans rfl
  have b1 := (blk_cell M2.out.b 1).trans rfl
  have b2 := (blk_cell M2.out.b 2).trans rfl
  have b3 := (blk_cell M2.out.b 3).trans rfl
  have b4 := (blk_cell M2.out.b 4).trans rfl
  have fb0 := blk_unfrozen M2.out.b 0
  have fb1 := blk_unfrozen M2.out.b 1
  have fb2 := blk_unfrozen M2.out.b 2
  have fb3 := blk_unfrozen M2.out.b 3
  have fb4 := blk_unfrozen M2.out.b 4
  go_wp2_with fail
  refine hn.out _ s' _ ?_ hs1 HS2.out HS3.out (M2.out.put s') (K2.out.trans (M2.out.kput s'))
  rfl
theorem itTake34 {t : List UInt8} {g N c : Nat} {w wr : World} {s : Sg} {C : Array Value} {k : Int} {Q : Exit → Act → World → Prop} {v0 v3 v7 v8 v9 v10 v11 v12 : Value} {r : List Value} (hr : r.length = 122) (hT : Hid (Tq t N g w)) (hN : Hid (Nf t N)) (hi : s.i < N) (M : Hid (Mj g N c w s C wr))  (hn : Hid (∀ r' s'  wx, r'.length = 122 → s'.i < N → s'.o = s.o → den (tkT t) s' = (den (tkT t) s).bnd (exp (tkT t) 46) → Mj g N c w s' C wx → KR w wr wx → Q .normal (Fi w k v0 v3 v7 v8 v9 v10 v11 v12 r') wx)) :
    Code.wp Tryd.prog (sL yST) Q (Fi w k v0 v3 v7 v8 v9 v10 v11 v12 r) wr := by
  have CT := Hid.mk (takeD t g N c s 46 wr (hT.out.below M.out.bel) hN.out hi (by omega) (by omega))
  unfold Sg.v parV at CT
  have b0 := (blk_cell M.out.b 0).trans rfl
  have b1 := (blk_cell M.out.b 1).trans rfl
  have b2 := (blk_cell M.out.b 2).trans rfl
  have b3 := (blk_cell M.out.b 3).trans rfl
  have b4 := (blk_cell M.out.b 4).trans rfl
  revert r
  refine @elim_out 122 _ ?_
  iterate 122 (intro _)
  show Code.wp _ _ _ _ _
  conv => arg 2; dsimp only [yST, y0, Tryd.f15, Option.getD, sR, sL, cT, cF, bk, lpo]
  conv => arg 4; dsimp only [Fi]
  go_wp2_with fail
  refine (show Calls Tryd.prog 25 #[.agg #[.slice (some ⟨g, 0, none⟩) N c, .int .i64 (s.i : Int), .int .i64 (s.o : Int), .int .i64 s.e, .int .i64 (s.a : Int)], .string ⟨#[109, 111, 115, 116]⟩] wr _ from CT.out).mono ?_
  rintro e' w2 ⟨s', rfl, hs1, hs2, hs3, hb⟩
  have M2 := Hid.mk (M.out.below hb)
  have K2 := Hid.mk (KR.below (w := w) hb)
  have HS2 := Hid.mk hs2
  have HS3 := Hid.mk hs3
  clear b0 b1 b2 b3 b4 CT hs2 hs3
  have b0 := (blk_cell M2.out.b 0).trans rfl
  have b1 := (blk_cell M2.out.b 1).trans rfl
  have b2 := (blk_cell M2.out.b 2).trans rfl
  have b3 := (blk_cell M2.out.b 3).trans rfl
  have b4 := (blk_cell M2.out.b 4).trans rfl
  have fb0 := blk_unfrozen M2.out.b 0
  have fb1 := blk_unfrozen M2.out.b 1
  have fb2 := blk_unfrozen M2.out.b 2
  have fb3 := blk_unfrozen M2.out.b 3
  have fb4 := blk_unfrozen M2.out.b 4
  go_wp2_with fail
  refine hn.out _ s' _ ?_ hs1 HS2.out HS3.out (M2.out.put s') (K2.out.trans (M2.out.kput s'))
  rfl
theorem itNum19 {t : List UInt8} {g N c : Nat} {w wr : World} {s : Sg} {C : Array Value} {k : Int} {Q : Exit → Act → World → Prop} {v0 v3 v7 v8 v9 v10 v11 v12 : Value} {r : List Value} (hr : r.length = 122) (hT : Hid (Tq t N g w)) (hN : Hid (Nf t N)) (hi : s.i < N) (M : Hid (Mj g N c w s C wr))  (hn : Hid (∀ r' s' x wx, r'.length = 122 → s'.i < N → s'.o = s.o → (den (tkT t) s').bnd (fun j => Rs.ok (x, j)) = (den (tkT t) s).bnd (sgnP (tkT t)) → Mj g N c w s' C wx → KR w wr wx → Q .normal (Fi w k v0 v3 v7 v8 v9 (.int .i64 x) v11 v12 r') wx)) :
    Code.wp Tryd.prog (sR yFR) Q (Fi w k v0 v3 v7 v8 v9 v10 v11 v12 r) wr := by
  have CT := Hid.mk (numD t g N c s true wr (hT.out.below M.out.bel) hN.out hi)
  unfold NumO Sg.v parV at CT
  have b0 := (blk_cell M.out.b 0).trans rfl
  have b1 := (blk_cell M.out.b 1).trans rfl
  have b2 := (blk_cell M.out.b 2).trans rfl
  have b3 := (blk_cell M.out.b 3).trans rfl
  have b4 := (blk_cell M.out.b 4).trans rfl
  revert r
  refine @elim_out 122 _ ?_
  iterate 122 (intro _)
  show Code.wp _ _ _ _ _
  conv => arg 2; dsimp only [yFR, y0, Tryd.f15, Option.getD, sR, sL, cT, cF, bk, lpo]
  conv => arg 4; dsimp only [Fi]
  go_wp2_with fail
  refine CT.out.mono ?_
  rintro e' w2 ⟨s', x, rfl, hs1, hs2, hs3, hb⟩
  have M2 := Hid.mk (M.out.below hb)
  have K2 := Hid.mk (KR.below (w := w) hb)
  have HS2 := Hid.mk hs2
  have HS3 := Hid.mk hs3
  clear b0 b1 b2 b3 b4 CT hs2 hs3
  have b0 := (blk_cell M2.out.b 0).trans rfl
  have b1 := (blk_cell M2.out.b 1).trans rfl
  have b2 := (blk_cell M2.out.b 2).trans rfl
  have b3 := (blk_cell M2.out.b 3).trans rfl
  have b4 := (blk_cell M2.out.b 4).trans rfl
  have fb0 := blk_unfrozen M2.out.b 0
  have fb1 := blk_unfrozen M2.out.b 1
  have fb2 := blk_unfrozen M2.out.b 2
  have fb3 := blk_unfrozen M2.out.b 3
  have fb4 := blk_unfrozen M2.out.b 4
  go_wp2_with fail
  refine hn.out _ s' x _ ?_ hs1 HS2.out HS3.out (M2.out.put s') (K2.out.trans (M2.out.kput s'))
  rfl
theorem itNum22 {t : List UInt8} {g N c : Nat} {w wr : World} {s : Sg} {C : Array Value} {k : Int} {Q : Exit → Act → World → Prop} {v0 v3 v7 v8 v9 v10 v11 v12 : Value} {r : List Value} (hr : r.length = 122) (hT : Hid (Tq t N g w)) (hN : Hid (Nf t N)) (hi : s.i < N) (M : Hid (Mj g N c w s C wr))  (hn : Hid (∀ r' s' x wx, r'.length = 122 → s'.i < N → s'.o = s.o → (den (tkT t) s').bnd (fun j => Rs.ok (x, j)) = (den (tkT t) s).bnd (sgnP (tkT t)) → Mj g N c w s' C wx → KR w wr wx → Q .normal (Fi w k v0 v3 v7 v8 v9 v10 (.int .i64 x) v12 r') wx)) :
    Code.wp Tryd.prog (sL (sR yIN)) Q (Fi w k v0 v3 v7 v8 v9 v10 v11 v12 r) wr := by
  have CT := Hid.mk (numD t g N c s true wr (hT.out.below M.out.bel) hN.out hi)
  unfold NumO Sg.v parV at CT
  have b0 := (blk_cell M.out.b 0).trans rfl
  have b1 := (blk_cell M.out.b 1).trans rfl
  have b2 := (blk_cell M.out.b 2).trans rfl
  have b3 := (blk_cell M.out.b 3).trans rfl
  have b4 := (blk_cell M.out.b 4).trans rfl
  revert r
  refine @elim_out 122 _ ?_
  iterate 122 (intro _)
  show Code.wp _ _ _ _ _
  conv => arg 2; dsimp only [yIN, y0, Tryd.f15, Option.getD, sR, sL, cT, cF, bk, lpo]
  conv => arg 4; dsimp only [Fi]
  go_wp2_with fail
  refine CT.out.mono ?_
  rintro e' w2 ⟨s', x, rfl, hs1, hs2, hs3, hb⟩
  have M2 := Hid.mk (M.out.below hb)
  have K2 := Hid.mk (KR.below (w := w) hb)
  have HS2 := Hid.mk hs2
  have HS3 := Hid.mk hs3
  clear b0 b1 b2 b3 b4 CT hs2 hs3
  have b0 := (blk_cell M2.out.b 0).trans rfl
  have b1 := (blk_cell M2.out.b 1).trans rfl
  have b2 := (blk_cell M2.out.b 2).trans rfl
  have b3 := (blk_cell M2.out.b 3).trans rfl
  have b4 := (blk_cell M2.out.b 4).trans rfl
  have fb0 := blk_unfrozen M2.out.b 0
  have fb1 := blk_unfrozen M2.out.b 1
  have fb2 := blk_unfrozen M2.out.b 2
  have fb3 := blk_unfrozen M2.out.b 3
  have fb4 := blk_unfrozen M2.out.b 4
  go_wp2_with fail
  refine hn.out _ s' x _ ?_ hs1 HS2.out HS3.out (M2.out.put s') (K2.out.trans (M2.out.kput s'))
  rfl
theorem itNum24 {t : List UInt8} {g N c : Nat} {w wr : World} {s : Sg} {C : Array Value} {k : Int} {Q : Exit → Act → World → Prop} {v0 v3 v7 v8 v9 v10 v11 v12 : Value} {r : List Value} (hr : r.length = 122) (hT : Hid (Tq t N g w)) (hN : Hid (Nf t N)) (hi : s.i < N) (M : Hid (Mj g N c w s C wr))  (hn : Hid (∀ r' s' x wx, r'.length = 122 → s'.i < N → s'.o = s.o → (den (tkT t) s').bnd (fun j => Rs.ok (x, j)) = (den (tkT t) s).bnd (sgnP (tkT t)) → Mj g N c w s' C wx → KR w wr wx → Q .normal (Fi w k v0 v3 v7 v8 v9 v10 v11 (.int .i64 x) r') wx)) :
    Code.wp Tryd.prog (sR (sR (sR yIN))) Q (Fi w k v0 v3 v7 v8 v9 v10 v11 v12 r) wr := by
  have CT := Hid.mk (numD t g N c s true wr (hT.out.below M.out.bel) hN.out hi)
  unfold NumO Sg.v parV at CT
  have b0 := (blk_cell M.out.b 0).trans rfl
  have b1 := (blk_cell M.out.b 1).trans rfl
  have b2 := (blk_cell M.out.b 2).trans rfl
  have b3 := (blk_cell M.out.b 3).trans rfl
  have b4 := (blk_cell M.out.b 4).trans rfl
  revert r
  refine @elim_out 122 _ ?_
  iterate 122 (intro _)
  show Code.wp _ _ _ _ _
  conv => arg 2; dsimp only [yIN, y0, Tryd.f15, Option.getD, sR, sL, cT, cF, bk, lpo]
  conv => arg 4; dsimp only [Fi]
  go_wp2_with fail
  refine CT.out.mono ?_
  rintro e' w2 ⟨s', x, rfl, hs1, hs2, hs3, hb⟩
  have M2 := Hid.mk (M.out.below hb)
  have K2 := Hid.mk (KR.below (w := w) hb)
  have HS2 := Hid.mk hs2
  have HS3 := Hid.mk hs3
  clear b0 b1 b2 b3 b4 CT hs2 hs3
  have b0 := (blk_cell M2.out.b 0).trans rfl
  have b1 := (blk_cell M2.out.b 1).trans rfl
  have b2 := (blk_cell M2.out.b 2).trans rfl
  have b3 := (blk_cell M2.out.b 3).trans rfl
  have b4 := (blk_cell M2.out.b 4).trans rfl
  have fb0 := blk_unfrozen M2.out.b 0
  have fb1 := blk_unfrozen M2.out.b 1
  have fb2 := blk_unfrozen M2.out.b 2
  have fb3 := blk_unfrozen M2.out.b 3
  have fb4 := blk_unfrozen M2.out.b 4
  go_wp2_with fail
  refine hn.out _ s' x _ ?_ hs1 HS2.out HS3.out (M2.out.put s') (K2.out.trans (M2.out.kput s'))
  rfl
theorem itNum32 {t : List UInt8} {g N c : Nat} {w wr : World} {s : Sg} {C : Array Value} {k : Int} {Q : Exit → Act → World → Prop} {v0 v3 v7 v8 v9 v10 v11 v12 : Value} {r : List Value} (hr : r.length = 122) (hT : Hid (Tq t N g w)) (hN : Hid (Nf t N)) (hi : s.i < N) (M : Hid (Mj g N c w s C wr))  (hn : Hid (∀ r' s' x wx, r'.length = 122 → s'.i < N → s'.o = s.o → (den (tkT t) s').bnd (fun j => Rs.ok (x, j)) = (den (tkT t) s).bnd (numP (tkT t)) → Mj g N c w s' C wx → KR w wr wx → Q .normal (Fi w k v0 v3 v7 v8 v9 (.int .i64 x) v11 v12 r') wx)) :
    Code.wp Tryd.prog yLI Q (Fi w k v0 v3 v7 v8 v9 v10 v11 v12 r) wr := by
  have CT := Hid.mk (numD t g N c s false wr (hT.out.below M.out.bel) hN.out hi)
  unfold NumO Sg.v parV at CT
  have b0 := (blk_cell M.out.b 0).trans rfl
  have b1 := (blk_cell M.out.b 1).trans rfl
  have b2 := (blk_cell M.out.b 2).trans rfl
  have b3 := (blk_cell M.out.b 3).trans rfl
  have b4 := (blk_cell M.out.b 4).trans rfl
  revert r
  refine @elim_out 122 _ ?_
  iterate 122 (intro _)
  show Code.wp _ _ _ _ _
  conv => arg 2; dsimp only [yLI, y0, Tryd.f15, Option.getD, sR, sL, cT, cF, bk, lpo]
  conv => arg 4; dsimp only [Fi]
  go_wp2_with fail
  refine CT.out.mono ?_
  rintro e' w2 ⟨s', x, rfl, hs1, hs2, hs3, hb⟩
  have M2 := Hid.mk (M.out.below hb)
  have K2 := Hid.mk (KR.below (w := w) hb)
  have HS2 := Hid.mk hs2
  have HS3 := Hid.mk hs3
  clear b0 b1 b2 b3 b4 CT hs2 hs3
  have b0 := (blk_cell M2.out.b 0).trans rfl
  have b1 := (blk_cell M2.out.b 1).trans rfl
  have b2 := (blk_cell M2.out.b 2).trans rfl
  have b3 := (blk_cell M2.out.b 3).trans rfl
  have b4 := (blk_cell M2.out.b 4).trans rfl
  have fb0 := blk_unfrozen M2.out.b 0
  have fb1 := blk_unfrozen M2.out.b 1
  have fb2 := blk_unfrozen M2.out.b 2
  have fb3 := blk_unfrozen M2.out.b 3
  have fb4 := blk_unfrozen M2.out.b 4
  go_wp2_with fail
  refine hn.out _ s' x _ ?_ hs1 HS2.out HS3.out (M2.out.put s') (K2.out.trans (M2.out.kput s'))
  rfl
theorem itNum35 {t : List UInt8} {g N c : Nat} {w wr : World} {s : Sg} {C : Array Value} {k : Int} {Q : Exit → Act → World → Prop} {v0 v3 v7 v8 v9 v10 v11 v12 : Value} {r : List Value} (hr : r.length = 122) (hT : Hid (Tq t N g w)) (hN : Hid (Nf t N)) (hi : s.i < N) (M : Hid (Mj g N c w s C wr))  (hn : Hid (∀ r' s' x wx, r'.length = 122 → s'.i < N → s'.o = s.o → (den (tkT t) s').bnd (fun j => Rs.ok (x, j)) = (den (tkT t) s).bnd (numP (tkT t)) → Mj g N c w s' C wx → KR w wr wx → Q .normal (Fi w k v0 v3 v7 v8 v9 (.int .i64 x) v11 v12 r') wx)) :
    Code.wp Tryd.prog (sR yST) Q (Fi w k v0 v3 v7 v8 v9 v10 v11 v12 r) wr := by
  have CT := Hid.mk (numD t g N c s false wr (hT.out.below M.out.bel) hN.out hi)
  unfold NumO Sg.v parV at CT
  have b0 := (blk_cell M.out.b 0).trans rfl
  have b1 := (blk_cell M.out.b 1).trans rfl
  have b2 := (blk_cell M.out.b 2).trans rfl
  have b3 := (blk_cell M.out.b 3).trans rfl
  have b4 := (blk_cell M.out.b 4).trans rfl
  revert r
  refine @elim_out 122 _ ?_
  iterate 122 (intro _)
  show Code.wp _ _ _ _ _
  conv => arg 2; dsimp only [yST, y0, Tryd.f15, Option.getD, sR, sL, cT, cF, bk, lpo]
  conv => arg 4; dsimp only [Fi]
  go_wp2_with fail
  refine CT.out.mono ?_
  rintro e' w2 ⟨s', x, rfl, hs1, hs2, hs3, hb⟩
  have M2 := Hid.mk (M.out.below hb)
  have K2 := Hid.mk (KR.below (w := w) hb)
  have HS2 := Hid.mk hs2
  have HS3 := Hid.mk hs3
  clear b0 b1 b2 b3 b4 CT hs2 hs3
  have b0 := (blk_cell M2.out.b 0).trans rfl
  have b1 := (blk_cell M2.out.b 1).trans rfl
  have b2 := (blk_cell M2.out.b 2).trans rfl
  have b3 := (blk_cell M2.out.b 3).trans rfl
  have b4 := (blk_cell M2.out.b 4).trans rfl
  have fb0 := blk_unfrozen M2.out.b 0
  have fb1 := blk_unfrozen M2.out.b 1
  have fb2 := blk_unfrozen M2.out.b 2
  have fb3 := blk_unfrozen M2.out.b 3
  have fb4 := blk_unfrozen M2.out.b 4
  go_wp2_with fail
  refine hn.out _ s' x _ ?_ hs1 HS2.out HS3.out (M2.out.put s') (K2.out.trans (M2.out.kput s'))
  rfl
theorem itTag29 {t : List UInt8} {g N c : Nat} {w wr : World} {s : Sg} {C : Array Value} {k : Int} {Q : Exit → Act → World → Prop} {v0 v3 v7 v8 v9 v10 v11 v12 : Value} {r : List Value} (hr : r.length = 122) (hT : Hid (Tq t N g w)) (hN : Hid (Nf t N)) (hi : s.i < N) (M : Hid (Mj g N c w s C wr))  (hn : Hid (∀ r' s' x wx, r'.length = 122 → s'.i < N → s'.o = s.o → (den (tkT t) s').bnd (fun j => Rs.ok (x, j)) = (den (tkT t) s).bnd (tagP (tkT t)) → Mj g N c w s' C wx → KR w wr wx → Q .normal (Fi w k v0 v3 v7 v8 v9 (.int .i64 x) v11 v12 r') wx)) :
    Code.wp Tryd.prog (sL yAP) Q (Fi w k v0 v3 v7 v8 v9 v10 v11 v12 r) wr := by
  have CT := Hid.mk (tagD t g N c s wr (hT.out.below M.out.bel) hN.out hi)
  unfold NumO Sg.v parV at CT
  have b0 := (blk_cell M.out.b 0).trans rfl
  have b1 := (blk_cell M.out.b 1).trans rfl
  have b2 := (blk_cell M.out.b 2).trans rfl
  have b3 := (blk_cell M.out.b 3).trans rfl
  have b4 := (blk_cell M.out.b 4).trans rfl
  revert r
  refine @elim_out 122 _ ?_
  iterate 122 (intro _)
  show Code.wp _ _ _ _ _
  conv => arg 2; dsimp only [yAP, y0, Tryd.f15, Option.getD, sR, sL, cT, cF, bk, lpo]
  conv => arg 4; dsimp only [Fi]
  go_wp2_with fail
  refine CT.out.mono ?_
  rintro e' w2 ⟨s', x, rfl, hs1, hs2, hs3, hb⟩
  have M2 := Hid.mk (M.out.below hb)
  have K2 := Hid.mk (KR.below (w := w) hb)
  have HS2 := Hid.mk hs2
  have HS3 := Hid.mk hs3
  clear b0 b1 b2 b3 b4 CT hs2 hs3
  have b0 := (blk_cell M2.out.b 0).trans rfl
  have b1 := (blk_cell M2.out.b 1).trans rfl
  have b2 := (blk_cell M2.out.b 2).trans rfl
  have b3 := (blk_cell M2.out.b 3).trans rfl
  have b4 := (blk_cell M2.out.b 4).trans rfl
  have fb0 := blk_unfrozen M2.out.b 0
  have fb1 := blk_unfrozen M2.out.b 1
  have fb2 := blk_unfrozen M2.out.b 2
  have fb3 := blk_unfrozen M2.out.b 3
  have fb4 := blk_unfrozen M2.out.b 4
  go_wp2_with fail
  refine hn.out _ s' x _ ?_ hs1 HS2.out HS3.out (M2.out.put s') (K2.out.trans (M2.out.kput s'))
  rfl
theorem itTag30 {t : List UInt8} {g N c : Nat} {w wr : World} {s : Sg} {C : Array Value} {k : Int} {Q : Exit → Act → World → Prop} {v0 v3 v7 v8 v9 v10 v11 v12 : Value} {r : List Value} (hr : r.length = 122) (hT : Hid (Tq t N g w)) (hN : Hid (Nf t N)) (hi : s.i < N) (M : Hid (Mj g N c w s C wr))  (hn : Hid (∀ r' s' x wx, r'.length = 122 → s'.i < N → s'.o = s.o → (den (tkT t) s').bnd (fun j => Rs.ok (x, j)) = (den (tkT t) s).bnd (tagP (tkT t)) → Mj g N c w s' C wx → KR w wr wx → Q .normal (Fi w k v0 v3 v7 v8 v9 v10 (.int .i64 x) v12 r') wx)) :
    Code.wp Tryd.prog (sR yAP) Q (Fi w k v0 v3 v7 v8 v9 v10 v11 v12 r) wr := by
  have CT := Hid.mk (tagD t g N c s wr (hT.out.below M.out.bel) hN.out hi)
  unfold NumO Sg.v parV at CT
  have b0 := (blk_cell M.out.b 0).trans rfl
  have b1 := (blk_cell M.out.b 1).trans rfl
  have b2 := (blk_cell M.out.b 2).trans rfl
  have b3 := (blk_cell M.out.b 3).trans rfl
  have b4 := (blk_cell M.out.b 4).trans rfl
  revert r
  refine @elim_out 122 _ ?_
  iterate 122 (intro _)
  show Code.wp _ _ _ _ _
  conv => arg 2; dsimp only [yAP, y0, Tryd.f15, Option.getD, sR, sL, cT, cF, bk, lpo]
  conv => arg 4; dsimp only [Fi]
  go_wp2_with fail
  refine CT.out.mono ?_
  rintro e' w2 ⟨s', x, rfl, hs1, hs2, hs3, hb⟩
  have M2 := Hid.mk (M.out.below hb)
  have K2 := Hid.mk (KR.below (w := w) hb)
  have HS2 := Hid.mk hs2
  have HS3 := Hid.mk hs3
  clear b0 b1 b2 b3 b4 CT hs2 hs3
  have b0 := (blk_cell M2.out.b 0).trans rfl
  have b1 := (blk_cell M2.out.b 1).trans rfl
  have b2 := (blk_cell M2.out.b 2).trans rfl
  have b3 := (blk_cell M2.out.b 3).trans rfl
  have b4 := (blk_cell M2.out.b 4).trans rfl
  have fb0 := blk_unfrozen M2.out.b 0
  have fb1 := blk_unfrozen M2.out.b 1
  have fb2 := blk_unfrozen M2.out.b 2
  have fb3 := blk_unfrozen M2.out.b 3
  have fb4 := blk_unfrozen M2.out.b 4
  go_wp2_with fail
  refine hn.out _ s' x _ ?_ hs1 HS2.out HS3.out (M2.out.put s') (K2.out.trans (M2.out.kput s'))
  rfl
theorem itExpr16 {t : List UInt8} {g N c : Nat} {w wr : World} {s : Sg} {C : Array Value} {k : Int} {Q : Exit → Act → World → Prop} {v0 v3 v7 v8 v9 v10 v11 v12 : Value} {r : List Value} (hr : r.length = 122) (hT : Hid (Tq t N g w)) (hN : Hid (Nf t N)) (hi : s.i < N) (M : Hid (Mj g N c w s C wr)) (ho : s.o ≤ 2000) (hn : Hid (∀ r' s' v L wx, r'.length = 122 → s'.i < N → s'.o ≤ 2000 → (den (tkT t) s').bnd (fun j => Rs.ok (L, j, s'.o)) = (den (tkT t) s).bnd (fun j => pxS (tkT t) (fuelT t) j s.o) → OwnO w.heap.size wx v L → Mj g N c w s' C wx → KR w wr wx → Q .normal (Fi w k v0 v3 v7 (v) v9 v10 v11 v12 r') wx)) :
    Code.wp Tryd.prog yEX Q (Fi w k v0 v3 v7 v8 v9 v10 v11 v12 r) wr := by
  have CT := Hid.mk (exprD t g N c s wr (hT.out.below M.out.bel) hN.out hi ho)
  unfold Sg.v parV at CT
  have b0 := (blk_cell M.out.b 0).trans rfl
  have b1 := (blk_cell M.out.b 1).trans rfl
  have b2 := (blk_cell M.out.b 2).trans rfl
  have b3 := (blk_cell M.out.b 3).trans rfl
  have b4 := (blk_cell M.out.b 4).trans rfl
  revert r
  refine @elim_out 122 _ ?_
  iterate 122 (intro _)
  show Code.wp _ _ _ _ _
  conv => arg 2; dsimp only [yEX, y0, Tryd.f15, Option.getD, sR, sL, cT, cF, bk, lpo]
  conv => arg 4; dsimp only [Fi]
  go_wp2_with fail
  refine CT.out.mono ?_
  rintro e' w2 ⟨s', v, L, rfl, hs1, hs2, hsO, hs3, hb⟩
  have M2 := Hid.mk (M.out.below hb)
  have K2 := Hid.mk (KR.below (w := w) hb)
  have HS2 := Hid.mk hs2
  have HS3 := Hid.mk hs3
  clear b0 b1 b2 b3 b4 CT hs2 hs3
  have b0 := (blk_cell M2.out.b 0).trans rfl
  have b1 := (blk_cell M2.out.b 1).trans rfl
  have b2 := (blk_cell M2.out.b 2).trans rfl
  have b3 := (blk_cell M2.out.b 3).trans rfl
  have b4 := (blk_cell M2.out.b 4).trans rfl
  have fb0 := blk_unfrozen M2.out.b 0
  have fb1 := blk_unfrozen M2.out.b 1
  have fb2 := blk_unfrozen M2.out.b 2
  have fb3 := blk_unfrozen M2.out.b 3
  have fb4 := blk_unfrozen M2.out.b 4
  go_wp2_with fail
  refine hn.out _ s' v L _ ?_ hs1 HS2.out HS3.out (M2.out.kput s' v L (hsO.lo M.out.bel.size)) (M2.out.put s') (K2.out.trans (M2.out.kput s'))
  rfl
theorem itExpr27 {t : List UInt8} {g N c : Nat} {w wr : World} {s : Sg} {C : Array Value} {k : Int} {Q : Exit → Act → World → Prop} {v0 v3 v7 v8 v9 v10 v11 v12 : Value} {r : List Value} (hr : r.length = 122) (hT : Hid (Tq t N g w)) (hN : Hid (Nf t N)) (hi : s.i < N) (M : Hid (Mj g N c w s C wr)) (ho : s.o ≤ 2000) (hn : Hid (∀ r' s' v L wx, r'.length = 122 → s'.i < N → s'.o ≤ 2000 → (den (tkT t) s').bnd (fun j => Rs.ok (L, j, s'.o)) = (den (tkT t) s).bnd (fun j => pxS (tkT t) (fuelT t) j s.o) → OwnO w.heap.size wx v L → Mj g N c w s' C wx → KR w wr wx → Q .normal (Fi w k v0 v3 v7 v8 (v) v10 v11 v12 r') wx)) :
    Code.wp Tryd.prog (sR yTH) Q (Fi w k v0 v3 v7 v8 v9 v10 v11 v12 r) wr := by
  have CT := Hid.mk (exprD t g N c s wr (hT.out.below M.out.bel) hN.out hi ho)
  unfold Sg.v parV at CT
  have b0 := (blk_cell M.out.b 0).trans rfl
  have b1 := (blk_cell M.out.b 1).trans rfl
  have b2 := (blk_cell M.out.b 2).trans rfl
  have b3 := (blk_cell M.out.b 3).trans rfl
  have b4 := (blk_cell M.out.b 4).trans rfl
  revert r
  refine @elim_out 122 _ ?_
  iterate 122 (intro _)
  show Code.wp _ _ _ _ _
  conv => arg 2; dsimp only [yTH, y0, Tryd.f15, Option.getD, sR, sL, cT, cF, bk, lpo]
  conv => arg 4; dsimp only [Fi]
  go_wp2_with fail
  refine CT.out.mono ?_
  rintro e' w2 ⟨s', v, L, rfl, hs1, hs2, hsO, hs3, hb⟩
  have M2 := Hid.mk (M.out.below hb)
  have K2 := Hid.mk (KR.below (w := w) hb)
  have HS2 := Hid.mk hs2
  have HS3 := Hid.mk hs3
  clear b0 b1 b2 b3 b4 CT hs2 hs3
  have b0 := (blk_cell M2.out.b 0).trans rfl
  have b1 := (blk_cell M2.out.b 1).trans rfl
  have b2 := (blk_cell M2.out.b 2).trans rfl
  have b3 := (blk_cell M2.out.b 3).trans rfl
  have b4 := (blk_cell M2.out.b 4).trans rfl
  have fb0 := blk_unfrozen M2.out.b 0
  have fb1 := blk_unfrozen M2.out.b 1
  have fb2 := blk_unfrozen M2.out.b 2
  have fb3 := blk_unfrozen M2.out.b 3
  have fb4 := blk_unfrozen M2.out.b 4
  go_wp2_with fail
  refine hn.out _ s' v L _ ?_ hs1 HS2.out HS3.out (M2.out.kput s' v L (hsO.lo M.out.bel.size)) (M2.out.put s') (K2.out.trans (M2.out.kput s'))
  rfl
end Go.Proofs.YtfoigigbggickaaDoor.Par
