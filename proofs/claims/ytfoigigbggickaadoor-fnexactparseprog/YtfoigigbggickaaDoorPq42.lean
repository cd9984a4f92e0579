import Derived.Test.YtfoigigbggickaaDoorPq40
namespace Go.Proofs.YtfoigigbggickaaDoor.Par
open Go Go.RowKit Go.Proofs.YtfoigigbggickaaDoor.Mem Go.Proofs.YtfoigigbggickaaDoor.Syn Go.Proofs.YtfoigigbggickaaDoor.Parse
set_option linter.unusedVariables false
set_option linter.unusedSimpArgs false
attribute [local go_sem ↓] Go.wp_at_zero Go.wp_at_succ


noncomputable def y0 : Code := Tryd.f15.body.getD .skip
noncomputable def yLT : Code := cT (sR (sL (sR (sR (sR y0)))))
noncomputable def yEX : Code := cT (sR (sL (sR (sR (sR (sR (sR (sR (sR (sR (sR y0)))))))))))
noncomputable def yFR : Code := cT (sR (sL (sR (sR (sR (sR (sR (sR (sR (sR (sR (sR y0))))))))))))
noncomputable def yIN : Code := cT (sR (sL (sR (sR (sR (sR (sR (sR (sR (sR (sR (sR (sR y0)))))))))))))
noncomputable def yTH : Code := cT (sR (sL (sR (sR (sR (sR (sR (sR (sR (sR (sR (sR (sR (sR y0))))))))))))))
noncomputable def yAP : Code := cT (sR (sL (sR (sR (sR (sR (sR (sR (sR (sR (sR (sR (sR (sR (sR y0)))))))))))))))
noncomputable def yLI : Code := cT (sR (sL (sR (sR (sR (sR (sR (sR (sR (sR (sR (sR (sR (sR (sR (sR y0))))))))))))))))
noncomputable def yST : Code := cT (sR (sL (sR (sR (sR (sR (sR (sR (sR (sR (sR (sR (sR (sR (sR (sR (sR y0)))))))))))))))))
theorem y0_eq : y0 = (.seq (sL y0) (.seq (sL (sR y0)) (.seq (sL (sR (sR y0))) (.seq (sL (sR (sR (sR y0)))) (.seq (sL (sR (sR (sR (sR y0))))) (.seq (sL (sR (sR (sR (sR (sR y0)))))) (.seq (sL (sR (sR (sR (sR (sR (sR y0))))))) (.seq (sL (sR (sR (sR (sR (sR (sR (sR y0)))))))) (.seq (sL (sR (sR (sR (sR (sR (sR (sR (sR y0))))))))) (.seq (sL (sR (sR (sR (sR (sR (sR (sR (sR (sR y0)))))))))) (.seq (sL (sR (sR (sR (sR (sR (sR (sR (sR (sR (sR y0))))))))))) (.seq (sL (sR (sR (sR (sR (sR (sR (sR (sR (sR (sR (sR y0)))))))))))) (.seq (sL (sR (sR (sR (sR (sR (sR (sR (sR (sR (sR (sR (sR y0))))))))))))) (.seq (sL (sR (sR (sR (sR (sR (sR (sR (sR (sR (sR (sR (sR (sR y0)))))))))))))) (.seq (sL (sR (sR (sR (sR (sR (sR (sR (sR (sR (sR (sR (sR (sR (sR y0))))))))))))))) (.seq (sL (sR (sR (sR (sR (sR (sR (sR (sR (sR (sR (sR (sR (sR (sR (sR y0)))))))))))))))) (.seq (sL (sR (sR (sR (sR (sR (sR (sR (sR (sR (sR (sR (sR (sR (sR (sR (sR y0))))))))))))))))) (.seq (sL (sR (sR (sR (sR (sR (sR (sR (sR (sR (sR (sR (sR (sR (sR (sR (sR (sR y0)))))))))))))))))) (.seq (sL (sR (sR (sR (sR (sR (sR (sR (sR (sR (sR (sR (sR (sR (sR (sR (sR (sR (sR y0))))))))))))))))))) (.seq (sL (sR (sR (sR (sR (sR (sR (sR (sR (sR (sR (sR (sR (sR (sR (sR (sR (sR (sR (sR y0)))))))))))))))))))) (.seq (sL (sR (sR (sR (sR (sR (sR (sR (sR (sR (sR (sR (sR (sR (sR (sR (sR (sR (sR (sR (sR y0))))))))))))))))))))) (sR (sR (sR (sR (sR (sR (sR (sR (sR (sR (sR (sR (sR (sR (sR (sR (sR (sR (sR (sR (sR y0)))))))))))))))))))))))))))))))))))))))))) := rfl
theorem yLT_eq : yLT = .seq (sL yLT) (.seq (sL (sR yLT)) (.seq (sL (sR (sR yLT))) (.seq (sL (sR (sR (sR yLT)))) (sR (sR (sR (sR yLT))))))) := rfl
theorem yFR_eq : yFR = .seq (sL yFR) (sR yFR) := rfl
theorem yIN_eq : yIN = .seq (sL yIN) (.seq (sL (sR yIN)) (.seq (sL (sR (sR yIN))) (sR (sR (sR yIN))))) := rfl
theorem yTH_eq : yTH = .seq (sL yTH) (sR yTH) := rfl
theorem yAP_eq : yAP = .seq (sL yAP) (sR yAP) := rfl
theorem yST_eq : yST = .seq (sL yST) (sR yST) := rfl
def Fi (w : World) (k : Int) (v0 v3 v7 v8 v9 v10 v11 v12 : Value) (r : List Value) : Act :=
  { tmps := (v0 :: .int .i64 k :: .pointer (some ⟨w.heap.size, 0, none⟩) :: v3 :: .pointer (some ⟨w.heap.size + 1, 0, none⟩) :: .pointer (some ⟨w.heap.size + 2, 0, none⟩) :: .pointer (some ⟨w.heap.size + 3, 0, none⟩) :: v7 :: v8 :: v9 :: v10 :: v11 :: v12 :: r).toArray, defers := [] }
/-- The boxes of l2Item. -/
structure Mj (g N c : Nat) (w : World) (s : Sg) (C : Array Value) (wr : World) : Prop where
  b : wr.heap[w.heap.size]? = some (.cells #[.slice (some ⟨g, 0, none⟩) N c, .int .i64 (s.i : Int), .int .i64 (s.o : Int), .int .i64 s.e, .int .i64 (s.a : Int)] 38)
  r : wr.heap[w.heap.size + 1]? = some (.cells #[.slice none 0 0, .int .i64 0, .int .i64 0, .int .i64 0, .int .i64 0] 38)
  q : wr.heap[w.heap.size + 2]? = some (.cells #[.int .i64 0, .string ⟨#[]⟩, .slice none 0 0, .slice none 0 0, .int .i64 0, .int .i64 0, .int .i64 0] 45)
  it : wr.heap[w.heap.size + 3]? = some (.cells C 45)
  bel : Below w.heap.size w wr
theorem Mj.below {g N c : Nat} {w : World} {s : Sg} {C : Array Value} {wr wx : World} (h : Mj g N c w s C wr) (hb : Below wr.heap.size wr wx) : Mj g N c w s C wx := ⟨blk_below h.b hb, blk_below h.r hb, blk_below h.q hb, blk_below h.it hb, below_then h.bel hb⟩
theorem Mj.set {g N c : Nat} {w : World} {s s' : Sg} {C : Array Value} {wr : World} {k : Nat} {u : Value} (h : Mj g N c w s C wr) (e : (#[.slice (some ⟨g, 0, none⟩) N c, .int .i64 (s.i : Int), .int .i64 (s.o : Int), .int .i64 s.e, .int .i64 (s.a : Int)] : Array Value).setIfInBounds k u = #[.slice (some ⟨g, 0, none⟩) N c, .int .i64 (s'.i : Int), .int .i64 (s'.o : Int), .int .i64 s'.e, .int .i64 (s'.a : Int)]) : Mj g N c w s' C (wr.setCell ⟨w.heap.size, k, none⟩ u) :=
  ⟨by rw [← e]; exact blk_set h.b k u, blk_set_other h.r (by simp) _, blk_set_other h.q (by simp) _, blk_set_other h.it (by simp) _, h.bel.setCell (p := ⟨w.heap.size, k, none⟩) (Nat.le_refl _) _⟩
/-- The parser's state is stored. -/
theorem Mj.put {g N c : Nat} {w : World} {s : Sg} {C : Array Value} {wr : World} (h : Mj g N c w s C wr) (s' : Sg) : Mj g N c w s' C (((((wr.setCell ⟨w.heap.size, 0, none⟩ (.slice (some ⟨g, 0, none⟩) N c)).setCell ⟨w.heap.size, 1, none⟩ (.int .i64 (s'.i : Int))).setCell ⟨w.heap.size, 2, none⟩ (.int .i64 (s'.o : Int))).setCell ⟨w.heap.size, 3, none⟩ (.int .i64 s'.e)).setCell ⟨w.heap.size, 4, none⟩ (.int .i64 (s'.a : Int))) :=
  ((((h.set (s' := s) rfl).set (s' := ⟨s'.i, s.o, s.e, s.a⟩) rfl).set (s' := ⟨s'.i, s'.o, s.e, s.a⟩) rfl).set (s' := ⟨s'.i, s'.o, s'.e, s.a⟩) rfl).set (s' := s') rfl
/-- The item's box is filled. -/
theorem Mj.fill {g N c : Nat} {w : World} {s : Sg} {C : Array Value} {wr : World} (h : Mj g N c w s C wr) (k : Nat) (u : Value) : Mj g N c w s (C.setIfInBounds k u) (wr.setCell ⟨w.heap.size + 3, k, none⟩ u) :=
  ⟨blk_set_other h.b (by simp) _, blk_set_other h.r (by simp) _, blk_set_other h.q (by simp) _, blk_set h.it k u, h.bel.setCell (p := ⟨w.heap.size + 3, k, none⟩) (by simp) _⟩
def KR (w wr wx : World) : Prop := ∀ v L, OwnO w.heap.size wr v L → OwnO w.heap.size wx v L
theorem KR.refl (w wr : World) : KR w wr wr := fun _ _ h => h
theorem KR.trans {w a b c : World} (h : KR w a b) (k : KR w b c) : KR w a c := fun v L x => k v L (h v L x)
theorem KR.below {w wr wx : World} (hb : Below wr.heap.size wr wx) : KR w wr wx := fun v L h => h.below hb
theorem Mj.kset {g N c : Nat} {w : World} {s : Sg} {C : Array Value} {wr : World} {k : Nat} {u : Value} (h : Mj g N c w s C wr) : KR w wr (wr.setCell ⟨w.heap.size, k, none⟩ u) := fun v L o => row_set'' o h.b (by decide)
theorem Mj.kfill {g N c : Nat} {w : World} {s : Sg} {C : Array Value} {wr : World} {k : Nat} {u : Value} (h : Mj g N c w s C wr) : KR w wr (wr.setCell ⟨w.heap.size + 3, k, none⟩ u) := fun v L o => row_set'' o h.it (by decide)
theorem Mj.kput {g N c : Nat} {w : World} {s : Sg} {C : Array Value} {wr : World} (h : Mj g N c w s C wr) (s' : Sg) : KR w wr (((((wr.setCell ⟨w.heap.size, 0, none⟩ (.slice (some ⟨g, 0, none⟩) N c)).setCell ⟨w.heap.size, 1, none⟩ (.int .i64 (s'.i : Int))).setCell ⟨w.heap.size, 2, none⟩ (.int .i64 (s'.o : Int))).setCell ⟨w.heap.size, 3, none⟩ (.int .i64 s'.e)).setCell ⟨w.heap.size, 4, none⟩ (.int .i64 (s'.a : Int))) :=
  ((((h.kset.trans (h.set (s' := s) (k := 0) (u := .slice (some ⟨g, 0, none⟩) N c) rfl).kset).trans ((h.set (s' := s) (k := 0) (u := .slice (some ⟨g, 0, none⟩) N c) rfl).set (s' := ⟨s'.i, s.o, s.e, s.a⟩) rfl).kset).trans (((h.set (s' := s) (k := 0) (u := .slice (some ⟨g, 0, none⟩) N c) rfl).set (s' := ⟨s'.i, s.o, s.e, s.a⟩) rfl).set (s' := ⟨s'.i, s'.o, s.e, s.a⟩) rfl).kset)).trans ((((h.set (s' := s) (k := 0) (u := .slice (some ⟨g, 0, none⟩) N c) rfl).set (s' := ⟨s'.i, s.o, s.e, s.a⟩) rfl).set (s' := ⟨s'.i, s'.o, s.e, s.a⟩) rfl).set (s' := ⟨s'.i, s'.o, s'.e, s.a⟩) rfl).kset
/-- The answer is laid: s' the parser's state, D the item. -/
structure Mr (g N c : Nat) (w : World) (s s' : Sg) (C D : Array Value) (wr : World) : Prop where
  b : wr.heap[w.heap.size]? = some (.cells #[.slice (some ⟨g, 0, none⟩) N c, .int .i64 (s.i : Int), .int .i64 (s.o : Int), .int .i64 s.e, .int .i64 (s.a : Int)] 38)
  r : wr.heap[w.heap.size + 1]? = some (.cells #[.slice (some ⟨g, 0, none⟩) N c, .int .i64 (s'.i : Int), .int .i64 (s'.o : Int), .int .i64 s'.e, .int .i64 (s'.a : Int)] 38)
  q : wr.heap[w.heap.size + 2]? = some (.cells D 45)
  it : wr.heap[w.heap.size + 3]? = some (.cells C 45)
  bel : Below w.heap.size w wr
theorem Mj.toR {g N c : Nat} {w : World} {s : Sg} {C : Array Value} {wr : World} (h : Mj g N c w s C wr) (s' : Sg) : Mr g N c w s s' C #[.int .i64 0, .string ⟨#[]⟩, .slice none 0 0, .slice none 0 0, .int .i64 0, .int .i64 0, .int .i64 0] (((((wr.setCell ⟨w.heap.size + 1, 0, none⟩ (.slice (some ⟨g, 0, none⟩) N c)).setCell ⟨w.heap.size + 1, 1, none⟩ (.int .i64 (s'.i : Int))).setCell ⟨w.heap.size + 1, 2, none⟩ (.int .i64 (s'.o : Int))).setCell ⟨w.heap.size + 1, 3, none⟩ (.int .i64 s'.e)).setCell ⟨w.heap.size + 1, 4, none⟩ (.int .i64 (s'.a : Int))) :=
  ⟨blk_set_other (blk_set_other (blk_set_other (blk_set_other (blk_set_other h.b (by simp) _) (by simp) _) (by simp) _) (by simp) _) (by simp) _,
   blk_set (blk_set (blk_set (blk_set (blk_set h.r 0 _) 1 _) 2 _) 3 _) 4 _,
   blk_set_other (blk_set_other (blk_set_other (blk_set_other (blk_set_other h.q (by simp) _) (by simp) _) (by simp) _) (by simp) _) (by simp) _,
   blk_set_other (blk_set_other (blk_set_other (blk_set_other (blk_set_other h.it (by simp) _) (by simp) _) (by simp) _) (by simp) _) (by simp) _,
   ((((h.bel.setCell (p := ⟨w.heap.size + 1, 0, none⟩) (by simp) _).setCell (p := ⟨w.heap.size + 1, 1, none⟩) (by simp) _).setCell (p := ⟨w.heap.size + 1, 2, none⟩) (by simp) _).setCell (p := ⟨w.heap.size + 1, 3, none⟩) (by simp) _).setCell (p := ⟨w.heap.size + 1, 4, none⟩) (by simp) _⟩
theorem Mj.kR {g N c : Nat} {w : World} {s : Sg} {C : Array Value} {wr : World} (h : Mj g N c w s C wr) (s' : Sg) : KR w wr (((((wr.setCell ⟨w.heap.size + 1, 0, none⟩ (.slice (some ⟨g, 0, none⟩) N c)).setCell ⟨w.heap.size + 1, 1, none⟩ (.int .i64 (s'.i : Int))).setCell ⟨w.heap.size + 1, 2, none⟩ (.int .i64 (s'.o : Int))).setCell ⟨w.heap.size + 1, 3, none⟩ (.int .i64 s'.e)).setCell ⟨w.heap.size + 1, 4, none⟩ (.int .i64 (s'.a : Int))) := fun v L o =>
  row_set'' (row_set'' (row_set'' (row_set'' (row_set'' o h.r (by decide)) (blk_set h.r 0 _) (by decide)) (blk_set (blk_set h.r 0 _) 1 _) (by decide)) (blk_set (blk_set (blk_set h.r 0 _) 1 _) 2 _) (by decide)) (blk_set (blk_set (blk_set (blk_set h.r 0 _) 1 _) 2 _) 3 _) (by decide)
theorem KR.item {w wr : World} {D : Array Value} (h : wr.heap[w.heap.size + 2]? = some (.cells D 45)) (k : Nat) (u : Value) : KR w wr (wr.setCell ⟨w.heap.size + 2, k, none⟩ u) := fun v L o => row_set'' o h (by decide)
theorem Mr.toI {g N c : Nat} {w : World} {s s' : Sg} {i0 i1 i2 i3 i4 i5 i6 : Value} {wr : World} (h : Mr g N c w s s' #[i0, i1, i2, i3, i4, i5, i6] #[.int .i64 0, .string ⟨#[]⟩, .slice none 0 0, .slice none 0 0, .int .i64 0, .int .i64 0, .int .i64 0] wr) : Mr g N c w s s' #[i0, i1, i2, i3, i4, i5, i6] #[i0, i1, i2, i3, i4, i5, i6] (((((((wr.setCell ⟨w.heap.size + 2, 0, none⟩ i0).setCell ⟨w.heap.size + 2, 1, none⟩ i1).setCell ⟨w.heap.size + 2, 2, none⟩ i2).setCell ⟨w.heap.size + 2, 3, none⟩ i3).setCell ⟨w.heap.size + 2, 4, none⟩ i4).setCell ⟨w.heap.size + 2, 5, none⟩ i5).setCell ⟨w.heap.size + 2, 6, none⟩ i6) :=
  ⟨blk_set_other (blk_set_other (blk_set_other (blk_set_other (blk_set_other (blk_set_other (blk_set_other h.b (by simp) _) (by simp) _) (by simp) _) (by simp) _) (by simp) _) (by simp) _) (by simp) _,
   blk_set_other (blk_set_other (blk_set_other (blk_set_other (blk_set_other (blk_set_other (blk_set_other h.r (by simp) _) (by simp) _) (by simp) _) (by simp) _) (by simp) _) (by simp) _) (by simp) _,
   blk_set (blk_set (blk_set (blk_set (blk_set (blk_set (blk_set h.q 0 _) 1 _) 2 _) 3 _) 4 _) 5 _) 6 _,
   blk_set_other (blk_set_other (blk_set_other (blk_set_other (blk_set_other (blk_set_other (blk_set_other h.it (by simp) _) (by simp) _) (by simp) _) (by simp) _) (by simp) _) (by simp) _) (by simp) _,
   ((((((h.bel.setCell (p := ⟨w.heap.size + 2, 0, none⟩) (by simp) _).setCell (p := ⟨w.heap.size + 2, 1, none⟩) (by simp) _).setCell (p := ⟨w.heap.size + 2, 2, none⟩) (by simp) _).setCell (p := ⟨w.heap.size + 2, 3, none⟩) (by simp) _).setCell (p := ⟨w.heap.size + 2, 4, none⟩) (by simp) _).setCell (p := ⟨w.heap.size + 2, 5, none⟩) (by simp) _).setCell (p := ⟨w.heap.size + 2, 6, none⟩) (by simp) _⟩
theorem Mr.kI {g N c : Nat} {w : World} {s s' : Sg} {i0 i1 i2 i3 i4 i5 i6 : Value} {C : Array Value} {wr : World} (h : Mr g N c w s s' C #[.int .i64 0, .string ⟨#[]⟩, .slice none 0 0, .slice none 0 0, .int .i64 0, .int .i64 0, .int .i64 0] wr) : KR w wr (((((((wr.setCell ⟨w.heap.size + 2, 0, none⟩ i0).setCell ⟨w.heap.size + 2, 1, none⟩ i1).setCell ⟨w.heap.size + 2, 2, none⟩ i2).setCell ⟨w.heap.size + 2, 3, none⟩ i3).setCell ⟨w.heap.size + 2, 4, none⟩ i4).setCell ⟨w.heap.size + 2, 5, none⟩ i5).setCell ⟨w.heap.size + 2, 6, none⟩ i6) :=
  ((((((KR.item h.q 0 i0).trans (KR.item (blk_set h.q 0 i0) 1 i1)).trans (KR.item (blk_set (blk_set h.q 0 i0) 1 i1) 2 i2)).trans (KR.item (blk_set (blk_set (blk_set h.q 0 i0) 1 i1) 2 i2) 3 i3)).trans (KR.item (blk_set (blk_set (blk_set (blk_set h.q 0 i0) 1 i1) 2 i2) 3 i3) 4 i4)).trans (KR.item (blk_set (blk_set (blk_set (blk_set (blk_set h.q 0 i0) 1 i1) 2 i2) 3 i3) 4 i4) 5 i5)).trans (KR.item (blk_set (blk_set (blk_set (blk_set (blk_set (blk_set h.q 0 i0) 1 i1) 2 i2) 3 i3) 4 i4) 5 i5) 6 i6)
theorem failD (t : List UInt8) (g N c : Nat) (s : Sg) (c0 : Int) (w : World) (hT : Tq t N g w) (hi : s.i < N) (hN : N ≤ 100000) :
    Calls Tryd.prog 14 #[s.v g N c, .int .i64 c0] w fun e' w' => ∃ s' : Sg, e' = .returned (s'.v g N c) ∧ Hid (s' = ⟨s.i, s.o, fcode c0 (tkT t s.i), (tkT t s.i).at'⟩) ∧ Below w.heap.size w w' := by
  refine (failS t g N c s.i s.o s.e s.a c0 w hT hi hN).mono ?_
  rintro e' w' ⟨rfl, hb⟩
  exact ⟨⟨s.i, s.o, fcode c0 (tkT t s.i), (tkT t s.i).at'⟩, rfl, Hid.mk rfl, hb⟩
set_option maxHeartbeats 1600000 in
set_option maxRecDepth 1000000 in
theorem hasES (k : Int) (b : Bool) (hb : b = (decide (k ≠ 6) && decide (k ≠ 7))) (w : World) : Calls Tryd.prog 26 #[.int .i64 k] w fun e w' => e = .returned (.bool b) ∧ w' = w := by
  by_cases h6 : k = 6
  · have h1 : (k != 6) = false := by simp [h6]
    have : b = false := by rw [hb]; simp [h6]
    subst this
    clear hb h6
    go_enter Tryd.func26, Tryd.ntmps26
    go_wp2
    go_ret
    exact ⟨rfl, rfl⟩
  · by_cases h7 : k = 7
    · have h1 : k ≠ 6 := h6
      have h2 : (k != 7) = false := by simp [h7]
      have : b = false := by rw [hb]; simp [h7]
      subst this
      clear hb h6 h7
      go_enter Tryd.func26, Tryd.ntmps26
      go_wp2
      go_ret
      exact ⟨rfl, rfl⟩
    · have h1 : k ≠ 6 := h6
      have h2 : k ≠ 7 := h7
      have h3 : (k != 6 && k != 7) = true := by simp [h6, h7]
      have : b = true := by rw [hb]; simp [h6, h7]
      subst this
      clear hb h6 h7
      go_enter Tryd.func26, Tryd.ntmps26
      go_wp2
      go_ret
      exact ⟨rfl, rfl⟩
theorem OwnO.lo {B B' : Nat} {w : World} {v : Value} {L : List Po} (h : OwnO B' w v L) (hle : B ≤ B') : OwnO B w v L := by
  refine ⟨h.1, ?_⟩
  rcases h.2 with h1 | ⟨g0, cap, cur, h1, h2, h3⟩
  · exact Or.inl h1
  · exact Or.inr ⟨g0, cap, cur, h1, by omega, h3⟩
end Go.Proofs.YtfoigigbggickaaDoor.Par
