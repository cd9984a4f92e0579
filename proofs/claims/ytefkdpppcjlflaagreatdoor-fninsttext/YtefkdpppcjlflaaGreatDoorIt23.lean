import Derived.Test.YtefkdpppcjlflaaGreatDoorIt17
import Derived.Test.YtefkdpppcjlflaaGreatDoorIt16
namespace Go.Proofs.YtefkdpppcjlflaaGreatDoor.Draw
open Go Go.RowKit Go.Proofs.YtefkdpppcjlflaaGreatDoor.Mem Go.Proofs.YtefkdpppcjlflaaGreatDoor.Parse
set_option linter.unusedVariables false
set_option linter.unusedSimpArgs false

/-! A spoilt instance. -/
def spV (k : Int) (v : Veh) : Veh :=
  if k = 0 then ⟨1000001, v.b, v.x, v.y, v.o, v.c, v.h⟩ else if k = 1 then ⟨v.a, 65536, v.x, v.y, v.o, v.c, v.h⟩ else if k = 2 then ⟨v.a, v.b, v.x, v.y, IntKind.i64.wrap (v.c + 1), v.c, v.h⟩ else ⟨v.a, v.b, 10001, v.y, v.o, v.c, v.h⟩
def spQ (k : Int) (v : Req) : Req :=
  if k = 4 then ⟨-1, v.b, v.x, v.y, v.o, v.c, v.h, v.x', v.y', v.o', v.c', v.h'⟩ else if k = 5 then ⟨v.a, -1, v.x, v.y, v.o, v.c, v.h, v.x', v.y', v.o', v.c', v.h'⟩ else if k = 6 then ⟨v.a, v.b, v.x, v.y, v.o, 1000001, v.h, v.x', v.y', v.o', v.c', v.h'⟩ else ⟨v.a, v.b, v.x, v.y, v.o, v.c, v.h, v.x', v.y', v.o', v.c', -1⟩
def sp2 (bs : List UInt8) (k : Int) (s : DS) (L : List Veh) : List Veh × DS :=
  if k < 4 ∧ 0 < L.length then (L.set (dBelow bs s L.length).1 (spV k (L.getD (dBelow bs s L.length).1 zV)), (dBelow bs s L.length).2) else (L, s)
def sp3 (bs : List UInt8) (k : Int) (s : DS) (L : List Req) : List Req × DS :=
  if (4 ≤ k ∧ k < 8) ∧ 0 < L.length then (L.set (dBelow bs s L.length).1 (spQ k (L.getD (dBelow bs s L.length).1 zQ)), (dBelow bs s L.length).2) else (L, s)
def zRd : Rd := ⟨0, 0, 0⟩
def s5 (k n : Int) (L : List Rd) : List Rd := if k = 8 then L ++ [⟨n, 0, 5⟩] else L
def s6 (k n : Int) (L : List Rd) : List Rd := if k = 9 then L ++ [⟨n - 1, n - 1, 5⟩] else L
def s7 (k : Int) (L : List Rd) : List Rd := if k = 10 ∧ 0 < L.length then L ++ [L.getD (L.length - 1) zRd] else L
def s8 (k : Int) (L : List Rd) : List Rd := if k = 11 ∧ 0 < L.length then L.set 0 ⟨(L.getD 0 zRd).a, (L.getD 0 zRd).b, 100001⟩ else L
def sp4 (k : Int) (n : Int) (L : List Rd) : List Rd := s8 k (s7 k (s6 k n (s5 k n L)))
def dSpoil (bs : List UInt8) (s : DS) (a : Acc) : Acc × DS :=
  let k : Int := ((dBelow bs s 12).1 : Int)
  let V := sp2 bs k (dBelow bs s 12).2 a.V
  let Q := sp3 bs k V.2 a.Q
  (⟨V.1, Q.1, sp4 k ((V.1.length : Int) + 2 * (Q.1.length : Int)) a.R⟩, Q.2)
variable {B g rI r0 : Nat} {w0 w : World} {bs : List UInt8} {s : DS} {v1 v2 v3 : Value} {a : Acc}
theorem IS.putV {b c n j : Nat} {v v' : Veh} (h : IS B g rI r0 w0 w bs s (.slice (some ⟨b, 0, none⟩) n c) v2 v3 a) (hn : n = a.V.length) (hj : a.V[j]? = some v) (hB : B ≤ w0.heap.size) : IS B g rI r0 w0 (((((((w.setCell ⟨b, j * 7, none⟩ (.int .i64 v'.a)).setCell ⟨b, j * 7 + 1, none⟩ (.int .i64 v'.b)).setCell ⟨b, j * 7 + 2, none⟩ (.int .i64 v'.x)).setCell ⟨b, j * 7 + 3, none⟩ (.int .i64 v'.y)).setCell ⟨b, j * 7 + 4, none⟩ (.int .i64 v'.o)).setCell ⟨b, j * 7 + 5, none⟩ (.int .i64 v'.c)).setCell ⟨b, j * 7 + 6, none⟩ (.int .i64 v'.h)) bs s (.slice (some ⟨b, 0, none⟩) n c) v2 v3 ⟨a.V.set j v', a.Q, a.R⟩ := by
  have hjl : j < n := by rw [hn]; exact (List.getElem?_eq_some_iff.1 hj).1
  have R0 := h.raw
  rw [← hn] at R0
  have Ra := R0.put1 (i := j * 7) (u := .int .i64 v'.a) (by omega) hB
  have Rb := Ra.put1 (i := j * 7 + 1) (u := .int .i64 v'.b) (by omega) hB
  have R1 := Rb.put1 (i := j * 7 + 2) (u := .int .i64 v'.x) (by omega) hB
  have R2 := R1.put1 (i := j * 7 + 3) (u := .int .i64 v'.y) (by omega) hB
  have R3 := R2.put1 (i := j * 7 + 4) (u := .int .i64 v'.o) (by omega) hB
  have R4 := R3.put1 (i := j * 7 + 5) (u := .int .i64 v'.c) (by omega) hB
  have R5 := R4.put1 (i := j * 7 + 6) (u := .int .i64 v'.h) (by omega) hB
  refine R5.back ?_ ?_ ?_ ?_ ?_ ?_
  all_goals first | rfl | (rw [List.length_set]; exact hn) | exact hn | exact sets_map Veh.len [(0, .int .i64 v'.a), (1, .int .i64 v'.b), (2, .int .i64 v'.x), (3, .int .i64 v'.y), (4, .int .i64 v'.o), (5, .int .i64 v'.c), (6, .int .i64 v'.h)] (by simp) hj rfl
theorem IS.putQ {b c n j : Nat} {v v' : Req} (h : IS B g rI r0 w0 w bs s v1 (.slice (some ⟨b, 0, none⟩) n c) v3 a) (hn : n = a.Q.length) (hj : a.Q[j]? = some v) (hB : B ≤ w0.heap.size) : IS B g rI r0 w0 ((((((((((((w.setCell ⟨b, j * 12, none⟩ (.int .i64 v'.a)).setCell ⟨b, j * 12 + 1, none⟩ (.int .i64 v'.b)).setCell ⟨b, j * 12 + 2, none⟩ (.int .i64 v'.x)).setCell ⟨b, j * 12 + 3, none⟩ (.int .i64 v'.y)).setCell ⟨b, j * 12 + 4, none⟩ (.int .i64 v'.o)).setCell ⟨b, j * 12 + 5, none⟩ (.int .i64 v'.c)).setCell ⟨b, j * 12 + 6, none⟩ (.int .i64 v'.h)).setCell ⟨b, j * 12 + 7, none⟩ (.int .i64 v'.x')).setCell ⟨b, j * 12 + 8, none⟩ (.int .i64 v'.y')).setCell ⟨b, j * 12 + 9, none⟩ (.int .i64 v'.o')).setCell ⟨b, j * 12 + 10, none⟩ (.int .i64 v'.c')).setCell ⟨b, j * 12 + 11, none⟩ (.int .i64 v'.h')) bs s v1 (.slice (some ⟨b, 0, none⟩) n c) v3 ⟨a.V, a.Q.set j v', a.R⟩ := by
  have hjl : j < n := by rw [hn]; exact (List.getElem?_eq_some_iff.1 hj).1
  have R0 := h.raw
  rw [← hn] at R0
  have Ra := R0.put2 (i := j * 12) (u := .int .i64 v'.a) (by omega) hB
  have Rb := Ra.put2 (i := j * 12 + 1) (u := .int .i64 v'.b) (by omega) hB
  have R1 := Rb.put2 (i := j * 12 + 2) (u := .int .i64 v'.x) (by omega) hB
  have R2 := R1.put2 (i := j * 12 + 3) (u := .int .i64 v'.y) (by omega) hB
  have R3 := R2.put2 (i := j * 12 + 4) (u := .int .i64 v'.o) (by omega) hB
  have R4 := R3.put2 (i := j * 12 + 5) (u := .int .i64 v'.c) (by omega) hB
  have R5 := R4.put2 (i := j * 12 + 6) (u := .int .i64 v'.h) (by omega) hB
  have R6 := R5.put2 (i := j * 12 + 7) (u := .int .i64 v'.x') (by omega) hB
  have R7 := R6.put2 (i := j * 12 + 8) (u := .int .i64 v'.y') (by omega) hB
  have R8 := R7.put2 (i := j * 12 + 9) (u := .int .i64 v'.o') (by omega) hB
  have R9 := R8.put2 (i := j * 12 + 10) (u := .int .i64 v'.c') (by omega) hB
  have R10 := R9.put2 (i := j * 12 + 11) (u := .int .i64 v'.h') (by omega) hB
  refine R10.back ?_ ?_ ?_ ?_ ?_ ?_
  all_goals first | rfl | (rw [List.length_set]; exact hn) | exact hn | exact sets_map Req.len [(0, .int .i64 v'.a), (1, .int .i64 v'.b), (2, .int .i64 v'.x), (3, .int .i64 v'.y), (4, .int .i64 v'.o), (5, .int .i64 v'.c), (6, .int .i64 v'.h), (7, .int .i64 v'.x'), (8, .int .i64 v'.y'), (9, .int .i64 v'.o'), (10, .int .i64 v'.c'), (11, .int .i64 v'.h')] (by simp) hj rfl
theorem IS.putT {b c n : Nat} {v : Rd} {t : Int} (h : IS B g rI r0 w0 w bs s v1 v2 (.slice (some ⟨b, 0, none⟩) n c) a) (hn : n = a.R.length) (hj : a.R[0]? = some v) (hB : B ≤ w0.heap.size) : IS B g rI r0 w0 (w.setCell ⟨b, 2, none⟩ (.int .i64 t)) bs s v1 v2 (.slice (some ⟨b, 0, none⟩) n c) ⟨a.V, a.Q, a.R.set 0 ⟨v.a, v.b, t⟩⟩ := by
  have hjl : 0 < n := by rw [hn]; exact (List.getElem?_eq_some_iff.1 hj).1
  have R0 := h.raw
  rw [← hn] at R0
  have R1 := R0.put3 (i := 2) (u := .int .i64 t) (by omega) hB
  refine R1.back ?_ ?_ ?_ ?_ ?_ ?_
  all_goals first | rfl | (rw [List.length_set]; exact hn) | exact hn | exact sets_map (j := 0) Rd.len [(2, .int .i64 t)] (by simp) hj rfl
/-- The same, and a caller's record (still zero) beside it. -/
structure IT (rF B g rI r0 : Nat) (w0 w : World) (bs : List UInt8) (s : DS) (v1 v2 v3 : Value) (a : Acc) : Prop extends IS B g rI r0 w0 w bs s v1 v2 v3 a where
  f : w.heap[rF]? = some (.cells #[.slice none 0 0, .slice none 0 0, .slice none 0 0] 27)
variable {rF : Nat} {w' : World} {s' : DS}
theorem IT.call (h : IT rF B g rI r0 w0 w bs s v1 v2 v3 a) (d : DC B g w' bs s') (hg : w.grownBy w' (some g)) (h1 : rI ≠ g) (h2 : r0 ≠ g) (h3 : rF ≠ g) : IT rF B g rI r0 w0 w' bs s' v1 v2 v3 a := ⟨h.toIS.call d hg h1 h2, blk_grown h.f hg h3⟩
theorem IT.below (h : IT rF B g rI r0 w0 w bs s v1 v2 v3 a) (hB : B ≤ w.heap.size) (hb : Below w.heap.size w w') : IT rF B g rI r0 w0 w' bs s v1 v2 v3 a := ⟨h.toIS.below hB hb, blk_below h.f hb⟩
theorem IT.own {r i : Nat} {v : Value} (h : IT rF B g rI r0 w0 w bs s v1 v2 v3 a) (hB : B ≤ r) (hg : g ≠ r) (h1 : rI ≠ r) (h2 : r0 ≠ r) (hr : w0.heap.size ≤ r) (hk : (∀ k, v1.ownBlock = some k → k < r) ∧ (∀ k, v2.ownBlock = some k → k < r) ∧ (∀ k, v3.ownBlock = some k → k < r)) (h3 : rF ≠ r) : IT rF B g rI r0 w0 (w.setCell ⟨r, i, none⟩ v) bs s v1 v2 v3 a := ⟨h.toIS.own hB hg h1 h2 hr hk, blk_set_other h.f h3 v⟩
theorem IT.appR {o : Obj} {w7 : World} {vn : Value} {n : Nat} {v : Rd} (h : IT rF B g rI r0 w0 w bs s v1 v2 v3 a) (hn : n = a.R.length) (hown : w7.ownsRow w0.heap.size 51 3 vn (n + 1) (a.R.flatMap Rd.cells ++ v.cells)) (hgrow : (w.alloc o).grownBy w7 v3.ownBlock) (hB : B ≤ w0.heap.size) (hBr : w0.heap.size ≤ rI) (h1 : rI ≠ g) (h2 : r0 ≠ rI) (h3 : rF ≠ rI) : IT rF B g rI r0 w0 (w7.setCell ⟨rI, 2, none⟩ vn) bs s v1 v2 vn { a with R := a.R ++ [v] } :=
  ⟨h.toIS.appR hn hown hgrow hB hBr h1 h2, blk_set_other (grown_other hgrow (h.acc.r.alloc o) (blk_alloc h.f o) (by decide)) h3 vn⟩
theorem far_set {W : World} {b i : Nat} {u : Value} {T : TypeId} (h : W.heap[rF]? = some (.cells #[.slice none 0 0, .slice none 0 0, .slice none 0 0] 27)) (hb : ∃ C fr, W.heap[b]? = some (.cells C T fr)) (hT : 27 ≠ T) : (W.setCell ⟨b, i, none⟩ u).heap[rF]? = some (.cells #[.slice none 0 0, .slice none 0 0, .slice none 0 0] 27) ∧ ∃ C fr, (W.setCell ⟨b, i, none⟩ u).heap[b]? = some (.cells C T fr) := by
  obtain ⟨C, fr, hC⟩ := hb
  exact ⟨blk_set_other h (blk_ne h hC hT) u, _, _, blk_set hC i u⟩
theorem IT.putV {b c n j : Nat} {v v' : Veh} (h : IT rF B g rI r0 w0 w bs s (.slice (some ⟨b, 0, none⟩) n c) v2 v3 a) (hn : n = a.V.length) (hj : a.V[j]? = some v) (hB : B ≤ w0.heap.size) : IT rF B g rI r0 w0 (((((((w.setCell ⟨b, j * 7, none⟩ (.int .i64 v'.a)).setCell ⟨b, j * 7 + 1, none⟩ (.int .i64 v'.b)).setCell ⟨b, j * 7 + 2, none⟩ (.int .i64 v'.x)).setCell ⟨b, j * 7 + 3, none⟩ (.int .i64 v'.y)).setCell ⟨b, j * 7 + 4, none⟩ (.int .i64 v'.o)).setCell ⟨b, j * 7 + 5, none⟩ (.int .i64 v'.c)).setCell ⟨b, j * 7 + 6, none⟩ (.int .i64 v'.h)) bs s (.slice (some ⟨b, 0, none⟩) n c) v2 v3 ⟨a.V.set j v', a.Q, a.R⟩ := by
  refine ⟨h.toIS.putV hn hj hB, ?_⟩
  have hv := h.acc.v
  rw [← hn] at hv
  have f0 := far_set (i := j * 7) (u := .int .i64 v'.a) h.f (row_blk hv).2 (by decide)
  have f1 := far_set (i := j * 7 + 1) (u := .int .i64 v'.b) f0.1 f0.2 (by decide)
  have f2 := far_set (i := j * 7 + 2) (u := .int .i64 v'.x) f1.1 f1.2 (by decide)
  have f3 := far_set (i := j * 7 + 3) (u := .int .i64 v'.y) f2.1 f2.2 (by decide)
  have f4 := far_set (i := j * 7 + 4) (u := .int .i64 v'.o) f3.1 f3.2 (by decide)
  have f5 := far_set (i := j * 7 + 5) (u := .int .i64 v'.c) f4.1 f4.2 (by decide)
  exact (far_set (i := j * 7 + 6) (u := .int .i64 v'.h) f5.1 f5.2 (by decide)).1
theorem IT.putQ {b c n j : Nat} {v v' : Req} (h : IT rF B g rI r0 w0 w bs s v1 (.slice (some ⟨b, 0, none⟩) n c) v3 a) (hn : n = a.Q.length) (hj : a.Q[j]? = some v) (hB : B ≤ w0.heap.size) : IT rF B g rI r0 w0 ((((((((((((w.setCell ⟨b, j * 12, none⟩ (.int .i64 v'.a)).setCell ⟨b, j * 12 + 1, none⟩ (.int .i64 v'.b)).setCell ⟨b, j * 12 + 2, none⟩ (.int .i64 v'.x)).setCell ⟨b, j * 12 + 3, none⟩ (.int .i64 v'.y)).setCell ⟨b, j * 12 + 4, none⟩ (.int .i64 v'.o)).setCell ⟨b, j * 12 + 5, none⟩ (.int .i64 v'.c)).setCell ⟨b, j * 12 + 6, none⟩ (.int .i64 v'.h)).setCell ⟨b, j * 12 + 7, none⟩ (.int .i64 v'.x')).setCell ⟨b, j * 12 + 8, none⟩ (.int .i64 v'.y')).setCell ⟨b, j * 12 + 9, none⟩ (.int .i64 v'.o')).setCell ⟨b, j * 12 + 10, none⟩ (.int .i64 v'.c')).setCell ⟨b, j * 12 + 11, none⟩ (.int .i64 v'.h')) bs s v1 (.slice (some ⟨b, 0, none⟩) n c) v3 ⟨a.V, a.Q.set j v', a.R⟩ := by
  refine ⟨h.toIS.putQ hn hj hB, ?_⟩
  have hv := h.acc.q
  rw [← hn] at hv
  have f0 := far_set (i := j * 12) (u := .int .i64 v'.a) h.f (row_blk hv).2 (by decide)
  have f1 := far_set (i := j * 12 + 1) (u := .int .i64 v'.b) f0.1 f0.2 (by decide)
  have f2 := far_set (i := j * 12 + 2) (u := .int .i64 v'.x) f1.1 f1.2 (by decide)
  have f3 := far_set (i := j * 12 + 3) (u := .int .i64 v'.y) f2.1 f2.2 (by decide)
  have f4 := far_set (i := j * 12 + 4) (u := .int .i64 v'.o) f3.1 f3.2 (by decide)
  have f5 := far_set (i := j * 12 + 5) (u := .int .i64 v'.c) f4.1 f4.2 (by decide)
  have f6 := far_set (i := j * 12 + 6) (u := .int .i64 v'.h) f5.1 f5.2 (by decide)
  have f7 := far_set (i := j * 12 + 7) (u := .int .i64 v'.x') f6.1 f6.2 (by decide)
  have f8 := far_set (i := j * 12 + 8) (u := .int .i64 v'.y') f7.1 f7.2 (by decide)
  have f9 := far_set (i := j * 12 + 9) (u := .int .i64 v'.o') f8.1 f8.2 (by decide)
  have f10 := far_set (i := j * 12 + 10) (u := .int .i64 v'.c') f9.1 f9.2 (by decide)
  exact (far_set (i := j * 12 + 11) (u := .int .i64 v'.h') f10.1 f10.2 (by decide)).1
theorem IT.putT {b c n : Nat} {v : Rd} {t : Int} (h : IT rF B g rI r0 w0 w bs s v1 v2 (.slice (some ⟨b, 0, none⟩) n c) a) (hn : n = a.R.length) (hj : a.R[0]? = some v) (hB : B ≤ w0.heap.size) : IT rF B g rI r0 w0 (w.setCell ⟨b, 2, none⟩ (.int .i64 t)) bs s v1 v2 (.slice (some ⟨b, 0, none⟩) n c) ⟨a.V, a.Q, a.R.set 0 ⟨v.a, v.b, t⟩⟩ := by
  refine ⟨h.toIS.putT hn hj hB, ?_⟩
  have hv := h.acc.r
  rw [← hn] at hv
  exact (far_set (i := 2) (u := .int .i64 t) h.f (row_blk hv).2 (by decide)).1
end Go.Proofs.YtefkdpppcjlflaaGreatDoor.Draw
