import Derived.Test.YtefkdpppcjlflaaGreatDoorIt14
namespace Go.Proofs.YtefkdpppcjlflaaGreatDoor.Draw
open Go Go.RowKit Go.Proofs.YtefkdpppcjlflaaGreatDoor.Mem Go.Proofs.YtefkdpppcjlflaaGreatDoor.Parse
set_option linter.unusedVariables false
set_option linter.unusedSimpArgs false

/-- The state of a drawn instance, its rows cell for cell. -/
structure ISr (B g rI r0 : Nat) (w0 w : World) (bs : List UInt8) (s : DS) (v1 v2 v3 : Value) (n1 n2 n3 : Nat) (x1 x2 x3 : List Value) : Prop where
  d : DC B g w bs s
  x : w.heap[rI]? = some (.cells #[v1, v2, v3] 27)
  z : w.heap[r0]? = some (.cells #[.slice none 0 0, .slice none 0 0, .slice none 0 0] 27)
  v : w.ownsRow w0.heap.size 45 7 v1 n1 x1
  q : w.ownsRow w0.heap.size 48 12 v2 n2 x2
  r : w.ownsRow w0.heap.size 51 3 v3 n3 x3
  gb : w0.grownBy w (some g)
variable {B g rI r0 : Nat} {w0 w : World} {bs : List UInt8} {s : DS} {v1 v2 v3 : Value} {n1 n2 n3 : Nat} {x1 x2 x3 : List Value} {a : Acc}
theorem IS.raw (h : IS B g rI r0 w0 w bs s v1 v2 v3 a) : ISr B g rI r0 w0 w bs s v1 v2 v3 a.V.length a.Q.length a.R.length (a.V.flatMap Veh.cells) (a.Q.flatMap Req.cells) (a.R.flatMap Rd.cells) := ⟨h.d, h.x, h.z, h.acc.v, h.acc.q, h.acc.r, h.gb⟩
theorem ISr.back (h : ISr B g rI r0 w0 w bs s v1 v2 v3 n1 n2 n3 x1 x2 x3) (e1 : n1 = a.V.length) (e2 : n2 = a.Q.length) (e3 : n3 = a.R.length) (f1 : x1 = a.V.flatMap Veh.cells) (f2 : x2 = a.Q.flatMap Req.cells) (f3 : x3 = a.R.flatMap Rd.cells) : IS B g rI r0 w0 w bs s v1 v2 v3 a := by
  subst e1 e2 e3 f1 f2 f3
  exact ⟨h.d, h.x, h.z, ⟨h.v, h.q, h.r⟩, h.gb⟩
/-- Where a row lies. -/
theorem row_blk {W : World} {B' sz n b c : Nat} {T : TypeId} {xs : List Value} (h : W.ownsRow B' T sz (.slice (some ⟨b, 0, none⟩) n c) n xs) : B' ≤ b ∧ ∃ C fr, W.heap[b]? = some (.cells C T fr) := by
  rcases h.2 with ⟨h1, -⟩ | ⟨b', cap, cur, h1, h2, h3, -⟩
  · cases h1
  · injection h1 with e1
    injection e1 with e1
    injection e1 with e1
    subst e1
    exact ⟨h2, cur, _, h3⟩
theorem blk_ne {W : World} {b b' : Nat} {C C' : Array Value} {T T' : TypeId} {fr fr' : Nat × Nat} (h : W.heap[b]? = some (.cells C T fr)) (h' : W.heap[b']? = some (.cells C' T' fr')) (hT : T ≠ T') : b ≠ b' := by
  rintro rfl
  rw [h] at h'
  injection h' with h'
  injection h' with _ e
  exact hT e
theorem row_far {W : World} {B' sz n r i : Nat} {T T' : TypeId} {u v : Value} {xs : List Value} {C : Array Value} {fr : Nat × Nat} (h : W.ownsRow B' T sz u n xs) (hr : W.heap[r]? = some (.cells C T' fr)) (hT : T ≠ T') : (W.setCell ⟨r, i, none⟩ v).ownsRow B' T sz u n xs := by
  refine ⟨h.1, ?_⟩
  rcases h.2 with h0 | ⟨b, cap, cur, h1, h2, h3, h4⟩
  · exact Or.inl h0
  · exact Or.inr ⟨b, cap, cur, h1, h2, blk_set_other h3 (blk_ne h3 hr hT) v, h4⟩
theorem dc_blk (h : DC B g w bs s) : ∃ C fr, w.heap[g]? = some (.cells C 68 fr) := by
  obtain ⟨-, -, v, hx, -⟩ := h
  exact ⟨_, _, hx⟩
theorem ISr.put1 {b c i : Nat} {u : Value} (h : ISr B g rI r0 w0 w bs s (.slice (some ⟨b, 0, none⟩) n1 c) v2 v3 n1 n2 n3 x1 x2 x3) (hi : i < n1 * 7) (hB : B ≤ w0.heap.size) : ISr B g rI r0 w0 (w.setCell ⟨b, i, none⟩ u) bs s (.slice (some ⟨b, 0, none⟩) n1 c) v2 v3 n1 n2 n3 (x1.set i u) x2 x3 := by
  obtain ⟨hb, C, fr, hC⟩ := row_blk h.v
  obtain ⟨C', fr', hg⟩ := dc_blk h.d
  exact ⟨h.d.other (Nat.le_trans hB hb) (blk_ne hg hC (by decide)), blk_set_other h.x (blk_ne h.x hC (by decide)) u, blk_set_other h.z (blk_ne h.z hC (by decide)) u, row_put h.v hi, row_far h.q hC (by decide), row_far h.r hC (by decide), gb_new h.gb hb⟩
theorem ISr.put2 {b c i : Nat} {u : Value} (h : ISr B g rI r0 w0 w bs s v1 (.slice (some ⟨b, 0, none⟩) n2 c) v3 n1 n2 n3 x1 x2 x3) (hi : i < n2 * 12) (hB : B ≤ w0.heap.size) : ISr B g rI r0 w0 (w.setCell ⟨b, i, none⟩ u) bs s v1 (.slice (some ⟨b, 0, none⟩) n2 c) v3 n1 n2 n3 x1 (x2.set i u) x3 := by
  obtain ⟨hb, C, fr, hC⟩ := row_blk h.q
  obtain ⟨C', fr', hg⟩ := dc_blk h.d
  exact ⟨h.d.other (Nat.le_trans hB hb) (blk_ne hg hC (by decide)), blk_set_other h.x (blk_ne h.x hC (by decide)) u, blk_set_other h.z (blk_ne h.z hC (by decide)) u, row_far h.v hC (by decide), row_put h.q hi, row_far h.r hC (by decide), gb_new h.gb hb⟩
theorem ISr.put3 {b c i : Nat} {u : Value} (h : ISr B g rI r0 w0 w bs s v1 v2 (.slice (some ⟨b, 0, none⟩) n3 c) n1 n2 n3 x1 x2 x3) (hi : i < n3 * 3) (hB : B ≤ w0.heap.size) : ISr B g rI r0 w0 (w.setCell ⟨b, i, none⟩ u) bs s v1 v2 (.slice (some ⟨b, 0, none⟩) n3 c) n1 n2 n3 x1 x2 (x3.set i u) := by
  obtain ⟨hb, C, fr, hC⟩ := row_blk h.r
  obtain ⟨C', fr', hg⟩ := dc_blk h.d
  exact ⟨h.d.other (Nat.le_trans hB hb) (blk_ne hg hC (by decide)), blk_set_other h.x (blk_ne h.x hC (by decide)) u, blk_set_other h.z (blk_ne h.z hC (by decide)) u, row_far h.v hC (by decide), row_far h.q hC (by decide), row_put h.r hi, gb_new h.gb hb⟩
/-- Cells of one record, set one by one. -/
def sets (j k : Nat) : List (Nat × Value) → List Value → List Value
  | [], xs => xs
  | p :: r, xs => sets j k r (xs.set (j * k + p.1) p.2)
def setP : List (Nat × Value) → List Value → List Value
  | [], x => x
  | p :: r, x => setP r (x.set p.1 p.2)
theorem setP_len : ∀ (l : List (Nat × Value)) (x : List Value), (setP l x).length = x.length
  | [], x => rfl
  | p :: r, x => by rw [setP, setP_len r, List.length_set]
theorem sets_flat {k : Nat} : ∀ (l : List (Nat × Value)) (j : Nat) (M : List (List Value)), (∀ p ∈ l, p.1 < k) → (∀ x ∈ M, x.length = k) → j < M.length → sets j k l M.flatten = (mods (setP l) j M).flatten
  | [], j, M, _, _, _ => by
    have : ∀ (j : Nat) (M : List (List Value)), mods (setP []) j M = M := by
      intro j M
      induction M generalizing j with
      | nil => simp [mods]
      | cons y r ih => cases j with
        | zero => rfl
        | succ j => rw [mods, ih]
    rw [sets, this]
  | p :: r, j, M, hl, hM, hj => by
    have hp := hl p (by simp)
    rw [sets, mods_flat hp j M hM hj, sets_flat r j _ (fun z hz => hl z (by simp [hz])) (mods_len (fun x hx => by rw [List.length_set]; exact hx) j M hM) (by rw [mods_num]; exact hj), mods_mods]
    rfl
theorem sets_map {α : Type} {c : α → List Value} {k : Nat} (hc : ∀ a, (c a).length = k) (l : List (Nat × Value)) (hl : ∀ p ∈ l, p.1 < k) {L : List α} {j : Nat} {v v' : α} (hj : L[j]? = some v) (hv : setP l (c v) = c v') : sets j k l (L.flatMap c) = (L.set j v').flatMap c := by
  have hjl : j < L.length := (List.getElem?_eq_some_iff.1 hj).1
  show sets j k l ((L.map c).flatten) = ((L.set j v').map c).flatten
  rw [sets_flat l j (L.map c) hl (fun x hx => by obtain ⟨a, -, rfl⟩ := List.mem_map.1 hx; exact hc a) (by rw [List.length_map]; exact hjl), mods_map hv j L hj]
theorem IS.limV {b c n j : Nat} {v : Veh} {p : Pl} (h : IS B g rI r0 w0 w bs s (.slice (some ⟨b, 0, none⟩) n c) v2 v3 a) (hn : n = a.V.length) (hj : a.V[j]? = some v) (hB : B ≤ w0.heap.size) : IS B g rI r0 w0 (((((w.setCell ⟨b, j * 7 + 2, none⟩ (.int .i64 p.x)).setCell ⟨b, j * 7 + 3, none⟩ (.int .i64 p.y)).setCell ⟨b, j * 7 + 4, none⟩ (.int .i64 p.o)).setCell ⟨b, j * 7 + 5, none⟩ (.int .i64 p.c)).setCell ⟨b, j * 7 + 6, none⟩ (.int .i64 p.h)) bs s (.slice (some ⟨b, 0, none⟩) n c) v2 v3 ⟨a.V.set j (Veh.put v p), a.Q, a.R⟩ := by
  have hjl : j < n := by rw [hn]; exact (List.getElem?_eq_some_iff.1 hj).1
  have R0 := h.raw
  rw [← hn] at R0
  have R1 := R0.put1 (i := j * 7 + 2) (u := .int .i64 p.x) (by omega) hB
  have R2 := R1.put1 (i := j * 7 + 3) (u := .int .i64 p.y) (by omega) hB
  have R3 := R2.put1 (i := j * 7 + 4) (u := .int .i64 p.o) (by omega) hB
  have R4 := R3.put1 (i := j * 7 + 5) (u := .int .i64 p.c) (by omega) hB
  have R5 := R4.put1 (i := j * 7 + 6) (u := .int .i64 p.h) (by omega) hB
  refine R5.back ?_ ?_ ?_ ?_ ?_ ?_
  all_goals first | rfl | (rw [List.length_set]; exact hn) | exact hn | exact sets_map Veh.len [(2, .int .i64 p.x), (3, .int .i64 p.y), (4, .int .i64 p.o), (5, .int .i64 p.c), (6, .int .i64 p.h)] (by simp) hj rfl
theorem IS.limQ {b c n j : Nat} {v : Req} {p : Pl} (h : IS B g rI r0 w0 w bs s v1 (.slice (some ⟨b, 0, none⟩) n c) v3 a) (hn : n = a.Q.length) (hj : a.Q[j]? = some v) (hB : B ≤ w0.heap.size) : IS B g rI r0 w0 (((((w.setCell ⟨b, j * 12 + 2, none⟩ (.int .i64 p.x)).setCell ⟨b, j * 12 + 3, none⟩ (.int .i64 p.y)).setCell ⟨b, j * 12 + 4, none⟩ (.int .i64 p.o)).setCell ⟨b, j * 12 + 5, none⟩ (.int .i64 p.c)).setCell ⟨b, j * 12 + 6, none⟩ (.int .i64 p.h)) bs s v1 (.slice (some ⟨b, 0, none⟩) n c) v3 ⟨a.V, a.Q.set j (Req.put v p), a.R⟩ := by
  have hjl : j < n := by rw [hn]; exact (List.getElem?_eq_some_iff.1 hj).1
  have R0 := h.raw
  rw [← hn] at R0
  have R1 := R0.put2 (i := j * 12 + 2) (u := .int .i64 p.x) (by omega) hB
  have R2 := R1.put2 (i := j * 12 + 3) (u := .int .i64 p.y) (by omega) hB
  have R3 := R2.put2 (i := j * 12 + 4) (u := .int .i64 p.o) (by omega) hB
  have R4 := R3.put2 (i := j * 12 + 5) (u := .int .i64 p.c) (by omega) hB
  have R5 := R4.put2 (i := j * 12 + 6) (u := .int .i64 p.h) (by omega) hB
  refine R5.back ?_ ?_ ?_ ?_ ?_ ?_
  all_goals first | rfl | (rw [List.length_set]; exact hn) | exact hn | exact sets_map Req.len [(2, .int .i64 p.x), (3, .int .i64 p.y), (4, .int .i64 p.o), (5, .int .i64 p.c), (6, .int .i64 p.h)] (by simp) hj rfl
theorem flat_at {α : Type} {c : α → List Value} {k : Nat} (hc : ∀ a, (c a).length = k) : ∀ (j : Nat) (L : List α) (v : α) (q : Nat), L[j]? = some v → q < k → (L.flatMap c)[j * k + q]? = (c v)[q]?
  | _, [], v, q, h, _ => by simp at h
  | 0, y :: r, v, q, h, hq => by
    simp only [List.getElem?_cons_zero, Option.some.injEq] at h
    subst h
    rw [List.flatMap_cons, List.getElem?_append_left (by rw [hc]; omega), Nat.zero_mul, Nat.zero_add]
  | j + 1, y :: r, v, q, h, hq => by
    have h1 : (j + 1) * k = k + j * k := by rw [Nat.succ_mul]; omega
    rw [List.flatMap_cons, List.getElem?_append_right (by rw [hc]; omega), hc, show (j + 1) * k + q - k = j * k + q by omega]
    exact flat_at hc j r v q (by simpa using h) hq
theorem row_cell {W : World} {B' sz n b c i : Nat} {T : TypeId} {u : Value} {xs : List Value} (h : W.ownsRow B' T sz (.slice (some ⟨b, 0, none⟩) n c) n xs) (hu : xs[i]? = some u) : W.cell? ⟨b, i, none⟩ = some u ∧ W.frozen? ⟨b, i, none⟩ = false := by
  rcases h.2 with ⟨h1, -⟩ | ⟨b', cap, cur, h1, h2, h3, h4, h5, h6, h7⟩
  · cases h1
  · injection h1 with e1
    injection e1 with e1
    injection e1 with e1
    subst e1
    refine ⟨?_, blk_unfrozen h3 i⟩
    rw [blk_cell h3 i]
    rw [← h7, List.getElem?_take] at hu
    split at hu
    · rw [← Array.getElem?_toList]; exact hu
    · cases hu
theorem IS.appR {o : Obj} {w7 : World} {vn : Value} {n : Nat} {v : Rd} (h : IS B g rI r0 w0 w bs s v1 v2 v3 a) (hn : n = a.R.length) (hown : w7.ownsRow w0.heap.size 51 3 vn (n + 1) (a.R.flatMap Rd.cells ++ v.cells)) (hgrow : (w.alloc o).grownBy w7 v3.ownBlock) (hB : B ≤ w0.heap.size) (hBr : w0.heap.size ≤ rI) (h1 : rI ≠ g) (h2 : r0 ≠ rI) : IS B g rI r0 w0 (w7.setCell ⟨rI, 2, none⟩ vn) bs s v1 v2 vn { a with R := a.R ++ [v] } := by
  have hx := grown_other hgrow (h.acc.r.alloc o) (blk_alloc h.x o) (by decide)
  have hz := grown_other hgrow (h.acc.r.alloc o) (blk_alloc h.z o) (by decide)
  have hq := row_grown (h.acc.v.alloc o) hgrow (h.acc.r.alloc o) (by decide)
  have hr := row_grown (h.acc.q.alloc o) hgrow (h.acc.r.alloc o) (by decide)
  have hv : w7.ownsRow w0.heap.size 51 3 vn (a.R ++ [v]).length ((a.R ++ [v]).flatMap Rd.cells) := by
    rw [List.length_append, List.length_singleton, List.flatMap_append, ← hn]; simpa using hown
  exact ⟨(dc_app h.d h.acc.r hgrow (by decide) h.gb.size hB).other (Nat.le_trans hB hBr) h1.symm, blk_set hx 2 vn, blk_set_other hz h2 vn, ⟨row_set hq hx (by decide), row_set hr hx (by decide), row_set hv hx (by decide)⟩, gb_new (gb_app h.gb h.acc.r hgrow) hBr⟩
/-- The record handed back: its three cells stored into the result. -/
theorem IS.ret (h : IS B g rI r0 w0 w bs s v1 v2 v3 a) (hB : B ≤ r0) (hg : r0 ≠ g) (hr : w0.heap.size ≤ r0) : DC B g (((w.setCell ⟨r0, 0, none⟩ v1).setCell ⟨r0, 1, none⟩ v2).setCell ⟨r0, 2, none⟩ v3) bs s ∧ AccAt w0.heap.size (((w.setCell ⟨r0, 0, none⟩ v1).setCell ⟨r0, 1, none⟩ v2).setCell ⟨r0, 2, none⟩ v3) v1 v2 v3 a ∧ w0.grownBy (((w.setCell ⟨r0, 0, none⟩ v1).setCell ⟨r0, 1, none⟩ v2).setCell ⟨r0, 2, none⟩ v3) (some g) ∧ (((w.setCell ⟨r0, 0, none⟩ v1).setCell ⟨r0, 1, none⟩ v2).setCell ⟨r0, 2, none⟩ v3).heap[r0]? = some (.cells #[v1, v2, v3] 27) := by
  have z0 := blk_set h.z 0 v1
  have z1 := blk_set z0 1 v2
  have z2 := blk_set z1 2 v3
  simp only [List.setIfInBounds_toArray, List.set_cons_zero, List.set_cons_succ] at z0 z1 z2
  exact ⟨((h.d.other hB hg.symm).other hB hg.symm).other hB hg.symm, ⟨row_far (row_far (row_far h.acc.v h.z (by decide)) z0 (by decide)) z1 (by decide), row_far (row_far (row_far h.acc.q h.z (by decide)) z0 (by decide)) z1 (by decide), row_far (row_far (row_far h.acc.r h.z (by decide)) z0 (by decide)) z1 (by decide)⟩, gb_new (gb_new (gb_new h.gb hr) hr) hr, z2⟩
theorem rec3 {w : World} {g : Nat} {x y z : Value} {t : TypeId} (h : w.heap[g]? = some (.cells #[x, y, z] t)) : w.cell? ⟨g, 0, none⟩ = some x ∧ w.cell? ⟨g, 1, none⟩ = some y ∧ w.cell? ⟨g, 2, none⟩ = some z := ⟨(blk_cell h 0).trans rfl, (blk_cell h 1).trans rfl, (blk_cell h 2).trans rfl⟩
end Go.Proofs.YtefkdpppcjlflaaGreatDoor.Draw
