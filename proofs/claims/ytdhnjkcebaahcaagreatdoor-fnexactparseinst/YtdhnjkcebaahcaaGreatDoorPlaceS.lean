import Derived.Test.YtdhnjkcebaahcaaGreatDoorSplitW
import Derived.Test.YtdhnjkcebaahcaaGreatDoorNumT
namespace Go.Proofs.YtdhnjkcebaahcaaGreatDoor.Parse
open Go Go.RowKit Go.Proofs.YtdhnjkcebaahcaaGreatDoor.Mem
set_option linter.unusedVariables false
set_option linter.unusedSimpArgs false
attribute [local go_sem ↓] Go.wp_at_zero Go.wp_at_succ

theorem frz_keep {W w1 : World} (hb : Below W.heap.size W w1) {p : Addr} {v : Value} (hc : W.cell? p = some v) (hf : W.frozen? p = false) : w1.frozen? p = false := by
  rw [hb.frozen (World.block_lt_of_cell? W _ hc)]; exact hf
theorem there5 {w : World} {b : Nat} (h : w.there b 0 5) : ∃ v0 v1 v2 v3 v4 : Value, w.cell? ⟨b, 0, none⟩ = some v0 ∧ w.cell? ⟨b, 1, none⟩ = some v1 ∧ w.cell? ⟨b, 2, none⟩ = some v2 ∧ w.cell? ⟨b, 3, none⟩ = some v3 ∧ w.cell? ⟨b, 4, none⟩ = some v4 ∧ w.frozen? ⟨b, 0, none⟩ = false ∧ w.frozen? ⟨b, 1, none⟩ = false ∧ w.frozen? ⟨b, 2, none⟩ = false ∧ w.frozen? ⟨b, 3, none⟩ = false ∧ w.frozen? ⟨b, 4, none⟩ = false := by
  obtain ⟨v0, e0⟩ := Option.isSome_iff_exists.1 (h 0 (by omega)).1
  obtain ⟨v1, e1⟩ := Option.isSome_iff_exists.1 (h 1 (by omega)).1
  obtain ⟨v2, e2⟩ := Option.isSome_iff_exists.1 (h 2 (by omega)).1
  obtain ⟨v3, e3⟩ := Option.isSome_iff_exists.1 (h 3 (by omega)).1
  obtain ⟨v4, e4⟩ := Option.isSome_iff_exists.1 (h 4 (by omega)).1
  exact ⟨v0, v1, v2, v3, v4, by simpa using e0, by simpa using e1, by simpa using e2, by simpa using e3, by simpa using e4, by simpa using (h 0 (by omega)).2, by simpa using (h 1 (by omega)).2, by simpa using (h 2 (by omega)).2, by simpa using (h 3 (by omega)).2, by simpa using (h 4 (by omega)).2⟩
theorem keepW {w w' : World} {g b n : Nat} {k1 k2 k3 k4 k5 : Nat} {u1 u2 u3 u4 u5 : Value} (h : w.cell? ⟨g, k1, none⟩ = some u1 ∧ w.cell? ⟨g, k2, none⟩ = some u2 ∧ w.cell? ⟨g, k3, none⟩ = some u3 ∧ w.cell? ⟨g, k4, none⟩ = some u4 ∧ w.cell? ⟨g, k5, none⟩ = some u5 ∧ w.there b 0 (n + 1)) (hb : Below w.heap.size w w') :
    w'.cell? ⟨g, k1, none⟩ = some u1 ∧ w'.cell? ⟨g, k2, none⟩ = some u2 ∧ w'.cell? ⟨g, k3, none⟩ = some u3 ∧ w'.cell? ⟨g, k4, none⟩ = some u4 ∧ w'.cell? ⟨g, k5, none⟩ = some u5 ∧ w'.there b 0 (n + 1) := by
  obtain ⟨h1, h2, h3, h4, h5, h6⟩ := h
  refine ⟨cell_keep hb h1, cell_keep hb h2, cell_keep hb h3, cell_keep hb h4, cell_keep hb h5, ?_⟩
  obtain ⟨v, hv⟩ := Option.isSome_iff_exists.1 (h6 0 (by omega)).1
  exact there_below h6 (lt_of_cell hv) hb
theorem keepSet {w : World} {g b n : Nat} {k1 k2 k3 k4 k5 : Nat} {u1 u2 u3 u4 u5 : Value} (hne : g ≠ b) {o : Nat} {v : Value} (h : w.cell? ⟨g, k1, none⟩ = some u1 ∧ w.cell? ⟨g, k2, none⟩ = some u2 ∧ w.cell? ⟨g, k3, none⟩ = some u3 ∧ w.cell? ⟨g, k4, none⟩ = some u4 ∧ w.cell? ⟨g, k5, none⟩ = some u5 ∧ w.there b 0 n) :
    (w.setCell ⟨b, o, none⟩ v).cell? ⟨g, k1, none⟩ = some u1 ∧ (w.setCell ⟨b, o, none⟩ v).cell? ⟨g, k2, none⟩ = some u2 ∧ (w.setCell ⟨b, o, none⟩ v).cell? ⟨g, k3, none⟩ = some u3 ∧ (w.setCell ⟨b, o, none⟩ v).cell? ⟨g, k4, none⟩ = some u4 ∧ (w.setCell ⟨b, o, none⟩ v).cell? ⟨g, k5, none⟩ = some u5 ∧ (w.setCell ⟨b, o, none⟩ v).there b 0 n := by
  obtain ⟨h1, h2, h3, h4, h5, h6⟩ := h
  have hc : ∀ k u, w.cell? ⟨g, k, none⟩ = some u → (w.setCell ⟨b, o, none⟩ v).cell? ⟨g, k, none⟩ = some u := fun k u h => by
    rw [World.cell?_setCell_other _ _ _ _ (fun e => by injection e with e1; exact hne e1.symm)]; exact h
  exact ⟨hc _ _ h1, hc _ _ h2, hc _ _ h3, hc _ _ h4, hc _ _ h5, World.there_setCells (w := w) h6 b o [v]⟩
theorem set5 {w : World} {b : Nat} {v0 v1 v2 v3 v4 : Value} (t0 : w.cell? ⟨b, 0, none⟩ = some v0) (t1 : w.cell? ⟨b, 1, none⟩ = some v1) (t2 : w.cell? ⟨b, 2, none⟩ = some v2) (t3 : w.cell? ⟨b, 3, none⟩ = some v3) (t4 : w.cell? ⟨b, 4, none⟩ = some v4) (x0 x1 x2 x3 x4 : Value) :
    (((((w.setCell ⟨b, 0, none⟩ x0).setCell ⟨b, 1, none⟩ x1).setCell ⟨b, 2, none⟩ x2).setCell ⟨b, 3, none⟩ x3).setCell ⟨b, 4, none⟩ x4).cell? ⟨b, 0, none⟩ = some x0 ∧ (((((w.setCell ⟨b, 0, none⟩ x0).setCell ⟨b, 1, none⟩ x1).setCell ⟨b, 2, none⟩ x2).setCell ⟨b, 3, none⟩ x3).setCell ⟨b, 4, none⟩ x4).cell? ⟨b, 1, none⟩ = some x1 ∧ (((((w.setCell ⟨b, 0, none⟩ x0).setCell ⟨b, 1, none⟩ x1).setCell ⟨b, 2, none⟩ x2).setCell ⟨b, 3, none⟩ x3).setCell ⟨b, 4, none⟩ x4).cell? ⟨b, 2, none⟩ = some x2 ∧ (((((w.setCell ⟨b, 0, none⟩ x0).setCell ⟨b, 1, none⟩ x1).setCell ⟨b, 2, none⟩ x2).setCell ⟨b, 3, none⟩ x3).setCell ⟨b, 4, none⟩ x4).cell? ⟨b, 3, none⟩ = some x3 ∧ (((((w.setCell ⟨b, 0, none⟩ x0).setCell ⟨b, 1, none⟩ x1).setCell ⟨b, 2, none⟩ x2).setCell ⟨b, 3, none⟩ x3).setCell ⟨b, 4, none⟩ x4).cell? ⟨b, 4, none⟩ = some x4 := by
  have ne : ∀ {i j : Nat}, i ≠ j → (⟨b, i, none⟩ : Addr) ≠ ⟨b, j, none⟩ := fun h e => h (by injection e)
  have oth : ∀ {W : World} {i j : Nat} {u v : Value}, i ≠ j → W.cell? ⟨b, j, none⟩ = some v → (W.setCell ⟨b, i, none⟩ u).cell? ⟨b, j, none⟩ = some v := fun {W i j u v} h hc => by
    rw [World.cell?_setCell_other _ _ _ _ (ne h)]; exact hc
  exact ⟨oth (by decide) (oth (by decide) (oth (by decide) (oth (by decide) (World.cell?_setCell_same _ _ _ t0)))), oth (by decide) (oth (by decide) (oth (by decide) (World.cell?_setCell_same _ _ _ (oth (by decide) t1)))), oth (by decide) (oth (by decide) (World.cell?_setCell_same _ _ _ (oth (by decide) (oth (by decide) t2)))), oth (by decide) (World.cell?_setCell_same _ _ _ (oth (by decide) (oth (by decide) (oth (by decide) t3)))), World.cell?_setCell_same _ _ _ (oth (by decide) (oth (by decide) (oth (by decide) (oth (by decide) t4))))⟩
theorem set5_below {w W : World} {b : Nat} (hB : w.heap.size ≤ b) (h : Below w.heap.size w W) (x0 x1 x2 x3 x4 : Value) : Below w.heap.size w (((((W.setCell ⟨b, 0, none⟩ x0).setCell ⟨b, 1, none⟩ x1).setCell ⟨b, 2, none⟩ x2).setCell ⟨b, 3, none⟩ x3).setCell ⟨b, 4, none⟩ x4) :=
  ((((h.setCell (p := ⟨b, 0, none⟩) hB x0).setCell (p := ⟨b, 1, none⟩) hB x1).setCell (p := ⟨b, 2, none⟩) hB x2).setCell (p := ⟨b, 3, none⟩) hB x3).setCell (p := ⟨b, 4, none⟩) hB x4
theorem flds_at {w : World} {a : Option Addr} {L : List (List UInt8)} (h : Flds w a L) {k : Nat} (hk : k < L.length) : ∃ g p n c f, a = some ⟨g, 0, none⟩ ∧ w.cell? ⟨g, k, none⟩ = some (.slice p n c) ∧ n ≤ c ∧ (n = f.length ∧ L.getD k [] = f) ∧ Rd w p f := by
  obtain ⟨g, p, c, e, h1, h2, h3⟩ := h k hk
  exact ⟨g, p, _, c, L[k], e, h1, h2, ⟨rfl, by simp [List.getD, hk]⟩, h3⟩

set_option maxHeartbeats 3200000 in
set_option maxRecDepth 100000 in
theorem place3 (p : Option Addr) (L : List (List UInt8)) (n c : Nat) (w : World) (hn : n = L.length) (hf : Flds w p L) (hi : 8 ≤ n) (hv : ∀ k, 3 ≤ k → k < 8 → isNum (L.getD k []) = true) :
    Calls Tryz.prog 24 #[.slice p n c, .int .i64 3] w fun e w' => e = .returned (.agg #[.int .i64 (num (L.getD 3 [])), .int .i64 (num (L.getD 4 [])), .int .i64 (num (L.getD 5 [])), .int .i64 (num (L.getD 6 [])), .int .i64 (num (L.getD 7 []))]) ∧ Below w.heap.size w w' := by
  obtain ⟨g, p3, n3, c3, f3, e3, x3, l3, s3, r3⟩ := flds_at hf (k := 3) (by omega)
  obtain ⟨g', p4, n4, c4, f4, e4, x4, l4, s4, r4⟩ := flds_at hf (k := 4) (by omega)
  obtain rfl : g = g' := by rw [e3] at e4; injection e4 with e4; injection e4
  clear e4
  obtain ⟨g', p5, n5, c5, f5, e5, x5, l5, s5, r5⟩ := flds_at hf (k := 5) (by omega)
  obtain rfl : g = g' := by rw [e3] at e5; injection e5 with e5; injection e5
  clear e5
  obtain ⟨g', p6, n6, c6, f6, e6, x6, l6, s6, r6⟩ := flds_at hf (k := 6) (by omega)
  obtain rfl : g = g' := by rw [e3] at e6; injection e6 with e6; injection e6
  clear e6
  obtain ⟨g', p7, n7, c7, f7, e7, x7, l7, s7, r7⟩ := flds_at hf (k := 7) (by omega)
  obtain rfl : g = g' := by rw [e3] at e7; injection e7 with e7; injection e7
  clear e7
  subst e3
  have hgb : g ≠ w.heap.size := by have := lt_of_cell x3; omega
  have N3 := Hid.mk (hv 3 (by omega) (by omega))
  rw [s3.2] at N3 ⊢
  have S3 := Hid.mk s3.1
  have R3 := Hid.mk r3
  have z3 : (3 : Int) < (n : Int) := by omega
  have N4 := Hid.mk (hv 4 (by omega) (by omega))
  rw [s4.2] at N4 ⊢
  have S4 := Hid.mk s4.1
  have R4 := Hid.mk r4
  have z4 : (4 : Int) < (n : Int) := by omega
  have N5 := Hid.mk (hv 5 (by omega) (by omega))
  rw [s5.2] at N5 ⊢
  have S5 := Hid.mk s5.1
  have R5 := Hid.mk r5
  have z5 : (5 : Int) < (n : Int) := by omega
  have N6 := Hid.mk (hv 6 (by omega) (by omega))
  rw [s6.2] at N6 ⊢
  have S6 := Hid.mk s6.1
  have R6 := Hid.mk r6
  have z6 : (6 : Int) < (n : Int) := by omega
  have N7 := Hid.mk (hv 7 (by omega) (by omega))
  rw [s7.2] at N7 ⊢
  have S7 := Hid.mk s7.1
  have R7 := Hid.mk r7
  have z7 : (7 : Int) < (n : Int) := by omega
  have v1 : IntKind.i64.wrap (3 + 1) = 4 := by decide
  have u1 : IntKind.i64.wrap 4 = 4 := by decide
  have v2 : IntKind.i64.wrap (3 + 2) = 5 := by decide
  have u2 : IntKind.i64.wrap 5 = 5 := by decide
  have v3 : IntKind.i64.wrap (3 + 3) = 6 := by decide
  have u3 : IntKind.i64.wrap 6 = 6 := by decide
  have v4 : IntKind.i64.wrap (3 + 4) = 7 := by decide
  have u4 : IntKind.i64.wrap 7 = 7 := by decide
  clear hn hf hv s3 r3 s4 r4 s5 r5 s6 r6 s7 r7
  go_enter Tryz.func24, Tryz.ntmps24
  go_wp2_with fail
  obtain ⟨W, hWe⟩ : ∃ W, W = w.alloc (.cells #[.int .i64 0, .int .i64 0, .int .i64 0, .int .i64 0, .int .i64 0] 55) := ⟨_, rfl⟩
  rw [← hWe]
  have hWB : Below w.heap.size w W := by rw [hWe]; exact below_alloc' (Below.refl _ _) _
  have q0 : W.cell? ⟨w.heap.size, 0, none⟩ = some (.int .i64 0) := by rw [hWe]; simp
  have qf0 : W.frozen? ⟨w.heap.size, 0, none⟩ = false := by rw [hWe]; simp
  have d0 : W.drew.cell? ⟨w.heap.size, 0, none⟩ = some (.int .i64 0) := q0
  have df0 : W.drew.frozen? ⟨w.heap.size, 0, none⟩ = false := qf0
  have q1 : W.cell? ⟨w.heap.size, 1, none⟩ = some (.int .i64 0) := by rw [hWe]; simp
  have qf1 : W.frozen? ⟨w.heap.size, 1, none⟩ = false := by rw [hWe]; simp
  have d1 : W.drew.cell? ⟨w.heap.size, 1, none⟩ = some (.int .i64 0) := q1
  have df1 : W.drew.frozen? ⟨w.heap.size, 1, none⟩ = false := qf1
  have q2 : W.cell? ⟨w.heap.size, 2, none⟩ = some (.int .i64 0) := by rw [hWe]; simp
  have qf2 : W.frozen? ⟨w.heap.size, 2, none⟩ = false := by rw [hWe]; simp
  have d2 : W.drew.cell? ⟨w.heap.size, 2, none⟩ = some (.int .i64 0) := q2
  have df2 : W.drew.frozen? ⟨w.heap.size, 2, none⟩ = false := qf2
  have q3 : W.cell? ⟨w.heap.size, 3, none⟩ = some (.int .i64 0) := by rw [hWe]; simp
  have qf3 : W.frozen? ⟨w.heap.size, 3, none⟩ = false := by rw [hWe]; simp
  have d3 : W.drew.cell? ⟨w.heap.size, 3, none⟩ = some (.int .i64 0) := q3
  have df3 : W.drew.frozen? ⟨w.heap.size, 3, none⟩ = false := qf3
  have q4 : W.cell? ⟨w.heap.size, 4, none⟩ = some (.int .i64 0) := by rw [hWe]; simp
  have qf4 : W.frozen? ⟨w.heap.size, 4, none⟩ = false := by rw [hWe]; simp
  have d4 : W.drew.cell? ⟨w.heap.size, 4, none⟩ = some (.int .i64 0) := q4
  have df4 : W.drew.frozen? ⟨w.heap.size, 4, none⟩ = false := qf4
  have y3 := cell_keep hWB x3
  have dy3 : W.drew.cell? ⟨g, 3, none⟩ = some (.slice p3 n3 c3) := y3
  have T3 := Hid.mk (Rd.below R3.out hWB)
  have y4 := cell_keep hWB x4
  have dy4 : W.drew.cell? ⟨g, 4, none⟩ = some (.slice p4 n4 c4) := y4
  have T4 := Hid.mk (Rd.below R4.out hWB)
  have y5 := cell_keep hWB x5
  have dy5 : W.drew.cell? ⟨g, 5, none⟩ = some (.slice p5 n5 c5) := y5
  have T5 := Hid.mk (Rd.below R5.out hWB)
  have y6 := cell_keep hWB x6
  have dy6 : W.drew.cell? ⟨g, 6, none⟩ = some (.slice p6 n6 c6) := y6
  have T6 := Hid.mk (Rd.below R6.out hWB)
  have y7 := cell_keep hWB x7
  have dy7 : W.drew.cell? ⟨g, 7, none⟩ = some (.slice p7 n7 c7) := y7
  have T7 := Hid.mk (Rd.below R7.out hWB)
  have HWB := Hid.mk hWB
  clear hWe hWB x3 x4 x5 x6 x7
  have hth : W.drew.there w.heap.size 0 5 := fun j hj => by match j, hj with | 0, _ => exact ⟨by rw [d0]; rfl, df0⟩ | 1, _ => exact ⟨by rw [d1]; rfl, df1⟩ | 2, _ => exact ⟨by rw [d2]; rfl, df2⟩ | 3, _ => exact ⟨by rw [d3]; rfl, df3⟩ | 4, _ => exact ⟨by rw [d4]; rfl, df4⟩
  clear q0 qf0 d0 df0 q1 qf1 d1 df1 q2 qf2 d2 df2 q3 qf3 d3 df3 q4 qf4 d4 df4
  refine wp_region_held_drew (S := (fun w' => w'.cell? ⟨g, 3, none⟩ = some (.slice p3 n3 c3) ∧ w'.cell? ⟨g, 4, none⟩ = some (.slice p4 n4 c4) ∧ w'.cell? ⟨g, 5, none⟩ = some (.slice p5 n5 c5) ∧ w'.cell? ⟨g, 6, none⟩ = some (.slice p6 n6 c6) ∧ w'.cell? ⟨g, 7, none⟩ = some (.slice p7 n7 c7) ∧ w'.there w.heap.size 0 5)) (by kernel_rfl) ?_ (fun hHeld => ?_)
  · exact ⟨dy3, dy4, dy5, dy6, dy7, hth⟩
  refine wpAnyH_take (i := 0) (v := ?_) rfl (by kernel_rfl) (by kernel_rfl) (by kernel_rfl) (fun _ _ _ h => h) (Or.inl ⟨by rfl, ?_⟩) (by assumption) ?_
  rotate_left
  · intro w hSw; (try dsimp only at hSw); go_simp; (try with_reducible rfl)
  rotate_left
  simp only [Act.put, List.setIfInBounds_toArray, List.set_cons_zero, List.set_cons_succ, List.getElem_toArray, List.getElem_cons_zero, List.getElem_cons_succ]
  refine wpAnyH_take (i := 1) (v := ?_) rfl (by kernel_rfl) (by kernel_rfl) (by kernel_rfl) (fun _ _ _ h => h) (Or.inl ⟨by rfl, ?_⟩) (by assumption) ?_
  rotate_left
  · intro w hSw; (try dsimp only at hSw); go_simp; (try with_reducible rfl)
  rotate_left
  simp only [Act.put, List.setIfInBounds_toArray, List.set_cons_zero, List.set_cons_succ, List.getElem_toArray, List.getElem_cons_zero, List.getElem_cons_succ]
  refine wpAnyH_take (i := 2) (v := ?_) rfl (by kernel_rfl) (by kernel_rfl) (by kernel_rfl) (fun _ _ _ h => h) (Or.inl ⟨by rfl, ?_⟩) (by assumption) ?_
  rotate_left
  · intro w hSw; (try dsimp only at hSw); go_simp; (try with_reducible rfl)
  rotate_left
  simp only [Act.put, List.setIfInBounds_toArray, List.set_cons_zero, List.set_cons_succ, List.getElem_toArray, List.getElem_cons_zero, List.getElem_cons_succ]
  refine wpAnyH_take (i := 3) (v := ?_) rfl (by kernel_rfl) (by kernel_rfl) (by kernel_rfl) (fun _ _ _ h => h) (Or.inl ⟨by rfl, ?_⟩) (by assumption) ?_
  rotate_left
  · intro w hSw; (try dsimp only at hSw); go_simp; (try with_reducible rfl)
  rotate_left
  simp only [Act.put, List.setIfInBounds_toArray, List.set_cons_zero, List.set_cons_succ, List.getElem_toArray, List.getElem_cons_zero, List.getElem_cons_succ]
  refine wpAnyH_take (i := 5) (v := ?_) rfl (by kernel_rfl) (by kernel_rfl) (by kernel_rfl) (fun _ _ _ h => h) (Or.inl ⟨by rfl, ?_⟩) (by assumption) ?_
  rotate_left
  · intro w hSw; (try dsimp only at hSw); go_simp; (try with_reducible rfl)
  rotate_left
  simp only [Act.put, List.setIfInBounds_toArray, List.set_cons_zero, List.set_cons_succ, List.getElem_toArray, List.getElem_cons_zero, List.getElem_cons_succ]
  refine wpAnyH_take (i := 6) (v := ?_) rfl (by kernel_rfl) (by kernel_rfl) (by kernel_rfl) (fun _ _ _ h => h) (Or.inl ⟨by rfl, ?_⟩) (by assumption) ?_
  rotate_left
  · intro w hSw; (try dsimp only at hSw); go_simp; (try with_reducible rfl)
  rotate_left
  simp only [Act.put, List.setIfInBounds_toArray, List.set_cons_zero, List.set_cons_succ, List.getElem_toArray, List.getElem_cons_zero, List.getElem_cons_succ]
  refine wpAnyH_take (i := 7) (v := ?_) rfl (by kernel_rfl) (by kernel_rfl) (by kernel_rfl) (fun _ _ _ h => h) (Or.inl ⟨by rfl, ?_⟩) (by assumption) ?_
  rotate_left
  · intro w hSw; (try dsimp only at hSw); go_simp; (try with_reducible rfl)
  rotate_left
  simp only [Act.put, List.setIfInBounds_toArray, List.set_cons_zero, List.set_cons_succ, List.getElem_toArray, List.getElem_cons_zero, List.getElem_cons_succ]
  refine wpAnyH_take (i := 8) (v := ?_) rfl (by kernel_rfl) (by kernel_rfl) (by kernel_rfl) (fun _ _ _ h => h) (Or.inl ⟨by rfl, ?_⟩) (by assumption) ?_
  rotate_left
  · intro w hSw; (try dsimp only at hSw); go_simp; (try with_reducible rfl)
  rotate_left
  simp only [Act.put, List.setIfInBounds_toArray, List.set_cons_zero, List.set_cons_succ, List.getElem_toArray, List.getElem_cons_zero, List.getElem_cons_succ]
  refine wpAnyH_take (i := 9) (v := ?_) rfl (by kernel_rfl) (by kernel_rfl) (by kernel_rfl) (fun _ _ _ h => h) (Or.inl ⟨by rfl, ?_⟩) (by assumption) ?_
  rotate_left
  · intro w hSw; (try dsimp only at hSw); go_simp; (try with_reducible rfl)
  rotate_left
  simp only [Act.put, List.setIfInBounds_toArray, List.set_cons_zero, List.set_cons_succ, List.getElem_toArray, List.getElem_cons_zero, List.getElem_cons_succ]
  refine wpAnyH_take (i := 11) (v := ?_) rfl (by kernel_rfl) (by kernel_rfl) (by kernel_rfl) (fun _ _ _ h => h) (Or.inl ⟨by rfl, ?_⟩) (by assumption) ?_
  rotate_left
  · intro w hSw; (try dsimp only at hSw); go_simp; (try with_reducible rfl)
  rotate_left
  simp only [Act.put, List.setIfInBounds_toArray, List.set_cons_zero, List.set_cons_succ, List.getElem_toArray, List.getElem_cons_zero, List.getElem_cons_succ]
  refine wpAnyH_take (i := 12) (v := ?_) rfl (by kernel_rfl) (by kernel_rfl) (by kernel_rfl) (fun _ _ _ h => h) (Or.inl ⟨by rfl, ?_⟩) (by assumption) ?_
  rotate_left
  · intro w hSw; (try dsimp only at hSw); go_simp; (try with_reducible rfl)
  rotate_left
  simp only [Act.put, List.setIfInBounds_toArray, List.set_cons_zero, List.set_cons_succ, List.getElem_toArray, List.getElem_cons_zero, List.getElem_cons_succ]
  refine wpAnyH_take (i := 13) (v := ?_) rfl (by kernel_rfl) (by kernel_rfl) (by kernel_rfl) (fun _ _ _ h => h) (Or.inl ⟨by rfl, ?_⟩) (by assumption) ?_
  rotate_left
  · intro w hSw; (try dsimp only at hSw); go_simp; (try with_reducible rfl)
  rotate_left
  simp only [Act.put, List.setIfInBounds_toArray, List.set_cons_zero, List.set_cons_succ, List.getElem_toArray, List.getElem_cons_zero, List.getElem_cons_succ]
  refine wpAnyH_take (i := 14) (v := ?_) rfl (by kernel_rfl) (by kernel_rfl) (by kernel_rfl) (fun _ _ _ h => h) (Or.inl ⟨by rfl, ?_⟩) (by assumption) ?_
  rotate_left
  · intro w hSw; (try dsimp only at hSw); go_simp; (try with_reducible rfl)
  rotate_left
  simp only [Act.put, List.setIfInBounds_toArray, List.set_cons_zero, List.set_cons_succ, List.getElem_toArray, List.getElem_cons_zero, List.getElem_cons_succ]
  refine wpAnyH_take (i := 15) (v := ?_) rfl (by kernel_rfl) (by kernel_rfl) (by kernel_rfl) (fun _ _ _ h => h) (Or.inl ⟨by rfl, ?_⟩) (by assumption) ?_
  rotate_left
  · intro w hSw; (try dsimp only at hSw); go_simp; (try with_reducible rfl)
  rotate_left
  simp only [Act.put, List.setIfInBounds_toArray, List.set_cons_zero, List.set_cons_succ, List.getElem_toArray, List.getElem_cons_zero, List.getElem_cons_succ]
  refine wpAnyH_take (i := 17) (v := ?_) rfl (by kernel_rfl) (by kernel_rfl) (by kernel_rfl) (fun _ _ _ h => h) (Or.inl ⟨by rfl, ?_⟩) (by assumption) ?_
  rotate_left
  · intro w hSw; (try dsimp only at hSw); go_simp; (try with_reducible rfl)
  rotate_left
  simp only [Act.put, List.setIfInBounds_toArray, List.set_cons_zero, List.set_cons_succ, List.getElem_toArray, List.getElem_cons_zero, List.getElem_cons_succ]
  refine wpAnyH_take (i := 18) (v := ?_) rfl (by kernel_rfl) (by kernel_rfl) (by kernel_rfl) (fun _ _ _ h => h) (Or.inl ⟨by rfl, ?_⟩) (by assumption) ?_
  rotate_left
  · intro w hSw; (try dsimp only at hSw); go_simp; (try with_reducible rfl)
  rotate_left
  simp only [Act.put, List.setIfInBounds_toArray, List.set_cons_zero, List.set_cons_succ, List.getElem_toArray, List.getElem_cons_zero, List.getElem_cons_succ]
  refine wpAnyH_take (i := 19) (v := ?_) rfl (by kernel_rfl) (by kernel_rfl) (by kernel_rfl) (fun _ _ _ h => h) (Or.inl ⟨by rfl, ?_⟩) (by assumption) ?_
  rotate_left
  · intro w hSw; (try dsimp only at hSw); go_simp; (try with_reducible rfl)
  rotate_left
  simp only [Act.put, List.setIfInBounds_toArray, List.set_cons_zero, List.set_cons_succ, List.getElem_toArray, List.getElem_cons_zero, List.getElem_cons_succ]
  refine wpAnyH_take (i := 20) (v := ?_) rfl (by kernel_rfl) (by kernel_rfl) (by kernel_rfl) (fun _ _ _ h => h) (Or.inl ⟨by rfl, ?_⟩) (by assumption) ?_
  rotate_left
  · intro w hSw; (try dsimp only at hSw); go_simp; (try with_reducible rfl)
  rotate_left
  simp only [Act.put, List.setIfInBounds_toArray, List.set_cons_zero, List.set_cons_succ, List.getElem_toArray, List.getElem_cons_zero, List.getElem_cons_succ]
  refine wpAnyH_take (i := 21) (v := ?_) rfl (by kernel_rfl) (by kernel_rfl) (by kernel_rfl) (fun _ _ _ h => h) (Or.inl ⟨by rfl, ?_⟩) (by assumption) ?_
  rotate_left
  · intro w hSw; (try dsimp only at hSw); go_simp; (try with_reducible rfl)
  rotate_left
  simp only [Act.put, List.setIfInBounds_toArray, List.set_cons_zero, List.set_cons_succ, List.getElem_toArray, List.getElem_cons_zero, List.getElem_cons_succ]
  refine wpAnyH_take (i := 23) (v := ?_) rfl (by kernel_rfl) (by kernel_rfl) (by kernel_rfl) (fun _ _ _ h => h) (Or.inl ⟨by rfl, ?_⟩) (by assumption) ?_
  rotate_left
  · intro w hSw; (try dsimp only at hSw); go_simp; (try with_reducible rfl)
  rotate_left
  simp only [Act.put, List.setIfInBounds_toArray, List.set_cons_zero, List.set_cons_succ, List.getElem_toArray, List.getElem_cons_zero, List.getElem_cons_succ]
  refine wpAnyH_take (i := 24) (v := ?_) rfl (by kernel_rfl) (by kernel_rfl) (by kernel_rfl) (fun _ _ _ h => h) (Or.inl ⟨by rfl, ?_⟩) (by assumption) ?_
  rotate_left
  · intro w hSw; (try dsimp only at hSw); go_simp; (try with_reducible rfl)
  rotate_left
  simp only [Act.put, List.setIfInBounds_toArray, List.set_cons_zero, List.set_cons_succ, List.getElem_toArray, List.getElem_cons_zero, List.getElem_cons_succ]
  refine wpAnyH_take (i := 25) (v := ?_) rfl (by kernel_rfl) (by kernel_rfl) (by kernel_rfl) (fun _ _ _ h => h) (Or.inl ⟨by rfl, ?_⟩) (by assumption) ?_
  rotate_left
  · intro w hSw; (try dsimp only at hSw); go_simp; (try with_reducible rfl)
  rotate_left
  simp only [Act.put, List.setIfInBounds_toArray, List.set_cons_zero, List.set_cons_succ, List.getElem_toArray, List.getElem_cons_zero, List.getElem_cons_succ]
  refine wpAnyH_take (i := 26) (v := ?_) rfl (by kernel_rfl) (by kernel_rfl) (by kernel_rfl) (fun _ _ _ h => h) (Or.inl ⟨by rfl, ?_⟩) (by assumption) ?_
  rotate_left
  · intro w hSw; (try dsimp only at hSw); go_simp; (try with_reducible rfl)
  rotate_left
  simp only [Act.put, List.setIfInBounds_toArray, List.set_cons_zero, List.set_cons_succ, List.getElem_toArray, List.getElem_cons_zero, List.getElem_cons_succ]
  refine wpAnyH_take (i := 27) (v := ?_) rfl (by kernel_rfl) (by kernel_rfl) (by kernel_rfl) (fun _ _ _ h => h) (Or.inl ⟨by rfl, ?_⟩) (by assumption) ?_
  rotate_left
  · intro w hSw; (try dsimp only at hSw); go_simp; (try with_reducible rfl)
  rotate_left
  simp only [Act.put, List.setIfInBounds_toArray, List.set_cons_zero, List.set_cons_succ, List.getElem_toArray, List.getElem_cons_zero, List.getElem_cons_succ]
  refine wpAnyH_ready (rs := [4]) (by kernel_rfl) (by simp) ?_
  refine AllReadyH.cons rfl (fun K hK => ?_) ?_
  · go_simp
    refine (numS p3 f3 n3 c3 _ S3.out l3 (Rd.below T3.out (by repeat (first | with_reducible exact Below.refl _ _ | with_reducible refine below_alloc' ?_ _ | with_reducible refine Below.drew ?_ | with_reducible refine below_then ?_ (by assumption)))) N3.out).mono ?_
    rintro e w1 ⟨rfl, hb1⟩
    go_wp2_with fail
    refine hK.out _ _ ?_ (fun hHeld => ?_)
    · (try dsimp only); first | with_reducible exact hHeld | exact keepW hHeld hb1
    clear hK K
    (try simp only [Act.put, List.setIfInBounds_toArray, List.set_cons_zero, List.set_cons_succ, List.getElem_toArray, List.getElem_cons_zero, List.getElem_cons_succ])
    refine wpAnyH_ready (rs := [10]) (by kernel_rfl) (by simp) ?_
    refine AllReadyH.cons rfl (fun K hK => ?_) ?_
    · go_simp
      refine (numS p4 f4 n4 c4 _ S4.out l4 (Rd.below T4.out (by repeat (first | with_reducible exact Below.refl _ _ | with_reducible refine below_alloc' ?_ _ | with_reducible refine Below.drew ?_ | with_reducible refine below_then ?_ (by assumption)))) N4.out).mono ?_
      rintro e w1 ⟨rfl, hb1⟩
      go_wp2_with fail
      refine hK.out _ _ ?_ (fun hHeld => ?_)
      · (try dsimp only); first | with_reducible exact hHeld | exact keepW hHeld hb1
      clear hK K
      (try simp only [Act.put, List.setIfInBounds_toArray, List.set_cons_zero, List.set_cons_succ, List.getElem_toArray, List.getElem_cons_zero, List.getElem_cons_succ])
      refine wpAnyH_ready (rs := [16]) (by kernel_rfl) (by simp) ?_
      refine AllReadyH.cons rfl (fun K hK => ?_) ?_
      · go_simp
        refine (numS p5 f5 n5 c5 _ S5.out l5 (Rd.below T5.out (by repeat (first | with_reducible exact Below.refl _ _ | with_reducible refine below_alloc' ?_ _ | with_reducible refine Below.drew ?_ | with_reducible refine below_then ?_ (by assumption)))) N5.out).mono ?_
        rintro e w1 ⟨rfl, hb1⟩
        go_wp2_with fail
        refine hK.out _ _ ?_ (fun hHeld => ?_)
        · (try dsimp only); first | with_reducible exact hHeld | exact keepW hHeld hb1
        clear hK K
        (try simp only [Act.put, List.setIfInBounds_toArray, List.set_cons_zero, List.set_cons_succ, List.getElem_toArray, List.getElem_cons_zero, List.getElem_cons_succ])
        refine wpAnyH_ready (rs := [22]) (by kernel_rfl) (by simp) ?_
        refine AllReadyH.cons rfl (fun K hK => ?_) ?_
        · go_simp
          refine (numS p6 f6 n6 c6 _ S6.out l6 (Rd.below T6.out (by repeat (first | with_reducible exact Below.refl _ _ | with_reducible refine below_alloc' ?_ _ | with_reducible refine Below.drew ?_ | with_reducible refine below_then ?_ (by assumption)))) N6.out).mono ?_
          rintro e w1 ⟨rfl, hb1⟩
          go_wp2_with fail
          refine hK.out _ _ ?_ (fun hHeld => ?_)
          · (try dsimp only); first | with_reducible exact hHeld | exact keepW hHeld hb1
          clear hK K
          (try simp only [Act.put, List.setIfInBounds_toArray, List.set_cons_zero, List.set_cons_succ, List.getElem_toArray, List.getElem_cons_zero, List.getElem_cons_succ])
          refine wpAnyH_ready (rs := [28]) (by kernel_rfl) (by simp) ?_
          refine AllReadyH.cons rfl (fun K hK => ?_) ?_
          · go_simp
            refine (numS p7 f7 n7 c7 _ S7.out l7 (Rd.below T7.out (by repeat (first | with_reducible exact Below.refl _ _ | with_reducible refine below_alloc' ?_ _ | with_reducible refine Below.drew ?_ | with_reducible refine below_then ?_ (by assumption)))) N7.out).mono ?_
            rintro e w1 ⟨rfl, hb1⟩
            go_wp2_with fail
            refine hK.out _ _ ?_ (fun hHeld => ?_)
            · (try dsimp only); first | with_reducible exact hHeld | exact keepW hHeld hb1
            clear hK K
            (try simp only [Act.put, List.setIfInBounds_toArray, List.set_cons_zero, List.set_cons_succ, List.getElem_toArray, List.getElem_cons_zero, List.getElem_cons_succ])
            refine wpAnyH_ready (rs := [29]) (by kernel_rfl) (by simp) ?_
            refine AllReadyH.cons rfl (fun K hK => ?_) ?_
            · go_simp
              refine hK.out _ _ ?_ (fun hHeld => ?_)
              · (try dsimp only); first | with_reducible exact hHeld | exact keepW hHeld hb1
              clear hK K
              (try simp only [Act.put, List.setIfInBounds_toArray, List.set_cons_zero, List.set_cons_succ, List.getElem_toArray, List.getElem_cons_zero, List.getElem_cons_succ])
              refine wpAnyH_ready (rs := [30]) (by kernel_rfl) (by simp) ?_
              refine AllReadyH.cons rfl (fun K hK => ?_) ?_
              · obtain ⟨hA, hB, hC, hD, hE, hF⟩ := id hHeld
                obtain ⟨v0, v1, v2, v3, v4, t0, t1, t2, t3, t4, s0, s1, s2, s3, s4⟩ := there5 hF
                go_simp
                refine hK.out _ _ ?_ (fun hHeld => ?_)
                · (try dsimp only); exact keepSet hgb (keepSet hgb (keepSet hgb (keepSet hgb (keepSet hgb hHeld))))
                clear hK K
                (try simp only [Act.put, List.setIfInBounds_toArray, List.set_cons_zero, List.set_cons_succ, List.getElem_toArray, List.getElem_cons_zero, List.getElem_cons_succ])
                refine wpAnyH_done (by kernel_rfl) ?_ _
                obtain ⟨r0, r1, r2, r3, r4⟩ := set5 t0 t1 t2 t3 t4 (.int .i64 (num f3)) (.int .i64 (num f4)) (.int .i64 (num f5)) (.int .i64 (num f6)) (.int .i64 (num f7))
                have HB := Hid.mk (set5_below (w := w) (b := w.heap.size) (Nat.le_refl _) (show Below w.heap.size w w1 by repeat (first | with_reducible exact HWB.out | with_reducible refine Below.drew ?_ | with_reducible refine below_then ?_ (by assumption))) (.int .i64 (num f3)) (.int .i64 (num f4)) (.int .i64 (num f5)) (.int .i64 (num f6)) (.int .i64 (num f7)))
                obtain ⟨Z, hZ⟩ : ∃ Z, Z = (((((w1.setCell ⟨w.heap.size, 0, none⟩ (.int .i64 (num f3))).setCell ⟨w.heap.size, 1, none⟩ (.int .i64 (num f4))).setCell ⟨w.heap.size, 2, none⟩ (.int .i64 (num f5))).setCell ⟨w.heap.size, 3, none⟩ (.int .i64 (num f6))).setCell ⟨w.heap.size, 4, none⟩ (.int .i64 (num f7))) := ⟨_, rfl⟩
                rw [← hZ] at r0 r1 r2 r3 r4 HB ⊢
                clear hZ hHeld t0 t1 t2 t3 t4 s0 s1 s2 s3 s4
                go_wp2
                refine bodyPost_ret (by simp [results, Tryz.results24, go_sem, r0, r1, r2, r3, r4]; try rfl) rfl ?_
                exact ⟨rfl, HB.out⟩
              exact AllReadyH.nil
            exact AllReadyH.nil
          exact AllReadyH.nil
        exact AllReadyH.nil
      exact AllReadyH.nil
    exact AllReadyH.nil
  exact AllReadyH.nil

set_option maxHeartbeats 3200000 in
set_option maxRecDepth 100000 in
theorem place8 (p : Option Addr) (L : List (List UInt8)) (n c : Nat) (w : World) (hn : n = L.length) (hf : Flds w p L) (hi : 13 ≤ n) (hv : ∀ k, 8 ≤ k → k < 13 → isNum (L.getD k []) = true) :
    Calls Tryz.prog 24 #[.slice p n c, .int .i64 8] w fun e w' => e = .returned (.agg #[.int .i64 (num (L.getD 8 [])), .int .i64 (num (L.getD 9 [])), .int .i64 (num (L.getD 10 [])), .int .i64 (num (L.getD 11 [])), .int .i64 (num (L.getD 12 []))]) ∧ Below w.heap.size w w' := by
  obtain ⟨g, p8, n8, c8, f8, e8, x8, l8, s8, r8⟩ := flds_at hf (k := 8) (by omega)
  obtain ⟨g', p9, n9, c9, f9, e9, x9, l9, s9, r9⟩ := flds_at hf (k := 9) (by omega)
  obtain rfl : g = g' := by rw [e8] at e9; injection e9 with e9; injection e9
  clear e9
  obtain ⟨g', p10, n10, c10, f10, e10, x10, l10, s10, r10⟩ := flds_at hf (k := 10) (by omega)
  obtain rfl : g = g' := by rw [e8] at e10; injection e10 with e10; injection e10
  clear e10
  obtain ⟨g', p11, n11, c11, f11, e11, x11, l11, s11, r11⟩ := flds_at hf (k := 11) (by omega)
  obtain rfl : g = g' := by rw [e8] at e11; injection e11 with e11; injection e11
  clear e11
  obtain ⟨g', p12, n12, c12, f12, e12, x12, l12, s12, r12⟩ := flds_at hf (k := 12) (by omega)
  obtain rfl : g = g' := by rw [e8] at e12; injection e12 with e12; injection e12
  clear e12
  subst e8
  have hgb : g ≠ w.heap.size := by have := lt_of_cell x8; omega
  have N8 := Hid.mk (hv 8 (by omega) (by omega))
  rw [s8.2] at N8 ⊢
  have S8 := Hid.mk s8.1
  have R8 := Hid.mk r8
  have z8 : (8 : Int) < (n : Int) := by omega
  have N9 := Hid.mk (hv 9 (by omega) (by omega))
  rw [s9.2] at N9 ⊢
  have S9 := Hid.mk s9.1
  have R9 := Hid.mk r9
  have z9 : (9 : Int) < (n : Int) := by omega
  have N10 := Hid.mk (hv 10 (by omega) (by omega))
  rw [s10.2] at N10 ⊢
  have S10 := Hid.mk s10.1
  have R10 := Hid.mk r10
  have z10 : (10 : Int) < (n : Int) := by omega
  have N11 := Hid.mk (hv 11 (by omega) (by omega))
  rw [s11.2] at N11 ⊢
  have S11 := Hid.mk s11.1
  have R11 := Hid.mk r11
  have z11 : (11 : Int) < (n : Int) := by omega
  have N12 := Hid.mk (hv 12 (by omega) (by omega))
  rw [s12.2] at N12 ⊢
  have S12 := Hid.mk s12.1
  have R12 := Hid.mk r12
  have z12 : (12 : Int) < (n : Int) := by omega
  have v1 : IntKind.i64.wrap (8 + 1) = 9 := by decide
  have u1 : IntKind.i64.wrap 9 = 9 := by decide
  have v2 : IntKind.i64.wrap (8 + 2) = 10 := by decide
  have u2 : IntKind.i64.wrap 10 = 10 := by decide
  have v3 : IntKind.i64.wrap (8 + 3) = 11 := by decide
  have u3 : IntKind.i64.wrap 11 = 11 := by decide
  have v4 : IntKind.i64.wrap (8 + 4) = 12 := by decide
  have u4 : IntKind.i64.wrap 12 = 12 := by decide
  clear hn hf hv s8 r8 s9 r9 s10 r10 s11 r11 s12 r12
  go_enter Tryz.func24, Tryz.ntmps24
  go_wp2_with fail
  obtain ⟨W, hWe⟩ : ∃ W, W = w.alloc (.cells #[.int .i64 0, .int .i64 0, .int .i64 0, .int .i64 0, .int .i64 0] 55) := ⟨_, rfl⟩
  rw [← hWe]
  have hWB : Below w.heap.size w W := by rw [hWe]; exact below_alloc' (Below.refl _ _) _
  have q0 : W.cell? ⟨w.heap.size, 0, none⟩ = some (.int .i64 0) := by rw [hWe]; simp
  have qf0 : W.frozen? ⟨w.heap.size, 0, none⟩ = false := by rw [hWe]; simp
  have d0 : W.drew.cell? ⟨w.heap.size, 0, none⟩ = some (.int .i64 0) := q0
  have df0 : W.drew.frozen? ⟨w.heap.size, 0, none⟩ = false := qf0
  have q1 : W.cell? ⟨w.heap.size, 1, none⟩ = some (.int .i64 0) := by rw [hWe]; simp
  have qf1 : W.frozen? ⟨w.heap.size, 1, none⟩ = false := by rw [hWe]; simp
  have d1 : W.drew.cell? ⟨w.heap.size, 1, none⟩ = some (.int .i64 0) := q1
  have df1 : W.drew.frozen? ⟨w.heap.size, 1, none⟩ = false := qf1
  have q2 : W.cell? ⟨w.heap.size, 2, none⟩ = some (.int .i64 0) := by rw [hWe]; simp
  have qf2 : W.frozen? ⟨w.heap.size, 2, none⟩ = false := by rw [hWe]; simp
  have d2 : W.drew.cell? ⟨w.heap.size, 2, none⟩ = some (.int .i64 0) := q2
  have df2 : W.drew.frozen? ⟨w.heap.size, 2, none⟩ = false := qf2
  have q3 : W.cell? ⟨w.heap.size, 3, none⟩ = some (.int .i64 0) := by rw [hWe]; simp
  have qf3 : W.frozen? ⟨w.heap.size, 3, none⟩ = false := by rw [hWe]; simp
  have d3 : W.drew.cell? ⟨w.heap.size, 3, none⟩ = some (.int .i64 0) := q3
  have df3 : W.drew.frozen? ⟨w.heap.size, 3, none⟩ = false := qf3
  have q4 : W.cell? ⟨w.heap.size, 4, none⟩ = some (.int .i64 0) := by rw [hWe]; simp
  have qf4 : W.frozen? ⟨w.heap.size, 4, none⟩ = false := by rw [hWe]; simp
  have d4 : W.drew.cell? ⟨w.heap.size, 4, none⟩ = some (.int .i64 0) := q4
  have df4 : W.drew.frozen? ⟨w.heap.size, 4, none⟩ = false := qf4
  have y8 := cell_keep hWB x8
  have dy8 : W.drew.cell? ⟨g, 8, none⟩ = some (.slice p8 n8 c8) := y8
  have T8 := Hid.mk (Rd.below R8.out hWB)
  have y9 := cell_keep hWB x9
  have dy9 : W.drew.cell? ⟨g, 9, none⟩ = some (.slice p9 n9 c9) := y9
  have T9 := Hid.mk (Rd.below R9.out hWB)
  have y10 := cell_keep hWB x10
  have dy10 : W.drew.cell? ⟨g, 10, none⟩ = some (.slice p10 n10 c10) := y10
  have T10 := Hid.mk (Rd.below R10.out hWB)
  have y11 := cell_keep hWB x11
  have dy11 : W.drew.cell? ⟨g, 11, none⟩ = some (.slice p11 n11 c11) := y11
  have T11 := Hid.mk (Rd.below R11.out hWB)
  have y12 := cell_keep hWB x12
  have dy12 : W.drew.cell? ⟨g, 12, none⟩ = some (.slice p12 n12 c12) := y12
  have T12 := Hid.mk (Rd.below R12.out hWB)
  have HWB := Hid.mk hWB
  clear hWe hWB x8 x9 x10 x11 x12
  have hth : W.drew.there w.heap.size 0 5 := fun j hj => by match j, hj with | 0, _ => exact ⟨by rw [d0]; rfl, df0⟩ | 1, _ => exact ⟨by rw [d1]; rfl, df1⟩ | 2, _ => exact ⟨by rw [d2]; rfl, df2⟩ | 3, _ => exact ⟨by rw [d3]; rfl, df3⟩ | 4, _ => exact ⟨by rw [d4]; rfl, df4⟩
  clear q0 qf0 d0 df0 q1 qf1 d1 df1 q2 qf2 d2 df2 q3 qf3 d3 df3 q4 qf4 d4 df4
  refine wp_region_held_drew (S := (fun w' => w'.cell? ⟨g, 8, none⟩ = some (.slice p8 n8 c8) ∧ w'.cell? ⟨g, 9, none⟩ = some (.slice p9 n9 c9) ∧ w'.cell? ⟨g, 10, none⟩ = some (.slice p10 n10 c10) ∧ w'.cell? ⟨g, 11, none⟩ = some (.slice p11 n11 c11) ∧ w'.cell? ⟨g, 12, none⟩ = some (.slice p12 n12 c12) ∧ w'.there w.heap.size 0 5)) (by kernel_rfl) ?_ (fun hHeld => ?_)
  · exact ⟨dy8, dy9, dy10, dy11, dy12, hth⟩
  refine wpAnyH_take (i := 0) (v := ?_) rfl (by kernel_rfl) (by kernel_rfl) (by kernel_rfl) (fun _ _ _ h => h) (Or.inl ⟨by rfl, ?_⟩) (by assumption) ?_
  rotate_left
  · intro w hSw; (try dsimp only at hSw); go_simp; (try with_reducible rfl)
  rotate_left
  simp only [Act.put, List.setIfInBounds_toArray, List.set_cons_zero, List.set_cons_succ, List.getElem_toArray, List.getElem_cons_zero, List.getElem_cons_succ]
  refine wpAnyH_take (i := 1) (v := ?_) rfl (by kernel_rfl) (by kernel_rfl) (by kernel_rfl) (fun _ _ _ h => h) (Or.inl ⟨by rfl, ?_⟩) (by assumption) ?_
  rotate_left
  · intro w hSw; (try dsimp only at hSw); go_simp; (try with_reducible rfl)
  rotate_left
  simp only [Act.put, List.setIfInBounds_toArray, List.set_cons_zero, List.set_cons_succ, List.getElem_toArray, List.getElem_cons_zero, List.getElem_cons_succ]
  refine wpAnyH_take (i := 2) (v := ?_) rfl (by kernel_rfl) (by kernel_rfl) (by kernel_rfl) (fun _ _ _ h => h) (Or.inl ⟨by rfl, ?_⟩) (by assumption) ?_
  rotate_left
  · intro w hSw; (try dsimp only at hSw); go_simp; (try with_reducible rfl)
  rotate_left
  simp only [Act.put, List.setIfInBounds_toArray, List.set_cons_zero, List.set_cons_succ, List.getElem_toArray, List.getElem_cons_zero, List.getElem_cons_succ]
  refine wpAnyH_take (i := 3) (v := ?_) rfl (by kernel_rfl) (by kernel_rfl) (by kernel_rfl) (fun _ _ _ h => h) (Or.inl ⟨by rfl, ?_⟩) (by assumption) ?_
  rotate_left
  · intro w hSw; (try dsimp only at hSw); go_simp; (try with_reducible rfl)
  rotate_left
  simp only [Act.put, List.setIfInBounds_toArray, List.set_cons_zero, List.set_cons_succ, List.getElem_toArray, List.getElem_cons_zero, List.getElem_cons_succ]
  refine wpAnyH_take (i := 5) (v := ?_) rfl (by kernel_rfl) (by kernel_rfl) (by kernel_rfl) (fun _ _ _ h => h) (Or.inl ⟨by rfl, ?_⟩) (by assumption) ?_
  rotate_left
  · intro w hSw; (try dsimp only at hSw); go_simp; (try with_reducible rfl)
  rotate_left
  simp only [Act.put, List.setIfInBounds_toArray, List.set_cons_zero, List.set_cons_succ, List.getElem_toArray, List.getElem_cons_zero, List.getElem_cons_succ]
  refine wpAnyH_take (i := 6) (v := ?_) rfl (by kernel_rfl) (by kernel_rfl) (by kernel_rfl) (fun _ _ _ h => h) (Or.inl ⟨by rfl, ?_⟩) (by assumption) ?_
  rotate_left
  · intro w hSw; (try dsimp only at hSw); go_simp; (try with_reducible rfl)
  rotate_left
  simp only [Act.put, List.setIfInBounds_toArray, List.set_cons_zero, List.set_cons_succ, List.getElem_toArray, List.getElem_cons_zero, List.getElem_cons_succ]
  refine wpAnyH_take (i := 7) (v := ?_) rfl (by kernel_rfl) (by kernel_rfl) (by kernel_rfl) (fun _ _ _ h => h) (Or.inl ⟨by rfl, ?_⟩) (by assumption) ?_
  rotate_left
  · intro w hSw; (try dsimp only at hSw); go_simp; (try with_reducible rfl)
  rotate_left
  simp only [Act.put, List.setIfInBounds_toArray, List.set_cons_zero, List.set_cons_succ, List.getElem_toArray, List.getElem_cons_zero, List.getElem_cons_succ]
  refine wpAnyH_take (i := 8) (v := ?_) rfl (by kernel_rfl) (by kernel_rfl) (by kernel_rfl) (fun _ _ _ h => h) (Or.inl ⟨by rfl, ?_⟩) (by assumption) ?_
  rotate_left
  · intro w hSw; (try dsimp only at hSw); go_simp; (try with_reducible rfl)
  rotate_left
  simp only [Act.put, List.setIfInBounds_toArray, List.set_cons_zero, List.set_cons_succ, List.getElem_toArray, List.getElem_cons_zero, List.getElem_cons_succ]
  refine wpAnyH_take (i := 9) (v := ?_) rfl (by kernel_rfl) (by kernel_rfl) (by kernel_rfl) (fun _ _ _ h => h) (Or.inl ⟨by rfl, ?_⟩) (by assumption) ?_
  rotate_left
  · intro w hSw; (try dsimp only at hSw); go_simp; (try with_reducible rfl)
  rotate_left
  simp only [Act.put, List.setIfInBounds_toArray, List.set_cons_zero, List.set_cons_succ, List.getElem_toArray, List.getElem_cons_zero, List.getElem_cons_succ]
  refine wpAnyH_take (i := 11) (v := ?_) rfl (by kernel_rfl) (by kernel_rfl) (by kernel_rfl) (fun _ _ _ h => h) (Or.inl ⟨by rfl, ?_⟩) (by assumption) ?_
  rotate_left
  · intro w hSw; (try dsimp only at hSw); go_simp; (try with_reducible rfl)
  rotate_left
  simp only [Act.put, List.setIfInBounds_toArray, List.set_cons_zero, List.set_cons_succ, List.getElem_toArray, List.getElem_cons_zero, List.getElem_cons_succ]
  refine wpAnyH_take (i := 12) (v := ?_) rfl (by kernel_rfl) (by kernel_rfl) (by kernel_rfl) (fun _ _ _ h => h) (Or.inl ⟨by rfl, ?_⟩) (by assumption) ?_
  rotate_left
  · intro w hSw; (try dsimp only at hSw); go_simp; (try with_reducible rfl)
  rotate_left
  simp only [Act.put, List.setIfInBounds_toArray, List.set_cons_zero, List.set_cons_succ, List.getElem_toArray, List.getElem_cons_zero, List.getElem_cons_succ]
  refine wpAnyH_take (i := 13) (v := ?_) rfl (by kernel_rfl) (by kernel_rfl) (by kernel_rfl) (fun _ _ _ h => h) (Or.inl ⟨by rfl, ?_⟩) (by assumption) ?_
  rotate_left
  · intro w hSw; (try dsimp only at hSw); go_simp; (try with_reducible rfl)
  rotate_left
  simp only [Act.put, List.setIfInBounds_toArray, List.set_cons_zero, List.set_cons_succ, List.getElem_toArray, List.getElem_cons_zero, List.getElem_cons_succ]
  refine wpAnyH_take (i := 14) (v := ?_) rfl (by kernel_rfl) (by kernel_rfl) (by kernel_rfl) (fun _ _ _ h => h) (Or.inl ⟨by rfl, ?_⟩) (by assumption) ?_
  rotate_left
  · intro w hSw; (try dsimp only at hSw); go_simp; (try with_reducible rfl)
  rotate_left
  simp only [Act.put, List.setIfInBounds_toArray, List.set_cons_zero, List.set_cons_succ, List.getElem_toArray, List.getElem_cons_zero, List.getElem_cons_succ]
  refine wpAnyH_take (i := 15) (v := ?_) rfl (by kernel_rfl) (by kernel_rfl) (by kernel_rfl) (fun _ _ _ h => h) (Or.inl ⟨by rfl, ?_⟩) (by assumption) ?_
  rotate_left
  · intro w hSw; (try dsimp only at hSw); go_simp; (try with_reducible rfl)
  rotate_left
  simp only [Act.put, List.setIfInBounds_toArray, List.set_cons_zero, List.set_cons_succ, List.getElem_toArray, List.getElem_cons_zero, List.getElem_cons_succ]
  refine wpAnyH_take (i := 17) (v := ?_) rfl (by kernel_rfl) (by kernel_rfl) (by kernel_rfl) (fun _ _ _ h => h) (Or.inl ⟨by rfl, ?_⟩) (by assumption) ?_
  rotate_left
  · intro w hSw; (try dsimp only at hSw); go_simp; (try with_reducible rfl)
  rotate_left
  simp only [Act.put, List.setIfInBounds_toArray, List.set_cons_zero, List.set_cons_succ, List.getElem_toArray, List.getElem_cons_zero, List.getElem_cons_succ]
  refine wpAnyH_take (i := 18) (v := ?_) rfl (by kernel_rfl) (by kernel_rfl) (by kernel_rfl) (fun _ _ _ h => h) (Or.inl ⟨by rfl, ?_⟩) (by assumption) ?_
  rotate_left
  · intro w hSw; (try dsimp only at hSw); go_simp; (try with_reducible rfl)
  rotate_left
  simp only [Act.put, List.setIfInBounds_toArray, List.set_cons_zero, List.set_cons_succ, List.getElem_toArray, List.getElem_cons_zero, List.getElem_cons_succ]
  refine wpAnyH_take (i := 19) (v := ?_) rfl (by kernel_rfl) (by kernel_rfl) (by kernel_rfl) (fun _ _ _ h => h) (Or.inl ⟨by rfl, ?_⟩) (by assumption) ?_
  rotate_left
  · intro w hSw; (try dsimp only at hSw); go_simp; (try with_reducible rfl)
  rotate_left
  simp only [Act.put, List.setIfInBounds_toArray, List.set_cons_zero, List.set_cons_succ, List.getElem_toArray, List.getElem_cons_zero, List.getElem_cons_succ]
  refine wpAnyH_take (i := 20) (v := ?_) rfl (by kernel_rfl) (by kernel_rfl) (by kernel_rfl) (fun _ _ _ h => h) (Or.inl ⟨by rfl, ?_⟩) (by assumption) ?_
  rotate_left
  · intro w hSw; (try dsimp only at hSw); go_simp; (try with_reducible rfl)
  rotate_left
  simp only [Act.put, List.setIfInBounds_toArray, List.set_cons_zero, List.set_cons_succ, List.getElem_toArray, List.getElem_cons_zero, List.getElem_cons_succ]
  refine wpAnyH_take (i := 21) (v := ?_) rfl (by kernel_rfl) (by kernel_rfl) (by kernel_rfl) (fun _ _ _ h => h) (Or.inl ⟨by rfl, ?_⟩) (by assumption) ?_
  rotate_left
  · intro w hSw; (try dsimp only at hSw); go_simp; (try with_reducible rfl)
  rotate_left
  simp only [Act.put, List.setIfInBounds_toArray, List.set_cons_zero, List.set_cons_succ, List.getElem_toArray, List.getElem_cons_zero, List.getElem_cons_succ]
  refine wpAnyH_take (i := 23) (v := ?_) rfl (by kernel_rfl) (by kernel_rfl) (by kernel_rfl) (fun _ _ _ h => h) (Or.inl ⟨by rfl, ?_⟩) (by assumption) ?_
  rotate_left
  · intro w hSw; (try dsimp only at hSw); go_simp; (try with_reducible rfl)
  rotate_left
  simp only [Act.put, List.setIfInBounds_toArray, List.set_cons_zero, List.set_cons_succ, List.getElem_toArray, List.getElem_cons_zero, List.getElem_cons_succ]
  refine wpAnyH_take (i := 24) (v := ?_) rfl (by kernel_rfl) (by kernel_rfl) (by kernel_rfl) (fun _ _ _ h => h) (Or.inl ⟨by rfl, ?_⟩) (by assumption) ?_
  rotate_left
  · intro w hSw; (try dsimp only at hSw); go_simp; (try with_reducible rfl)
  rotate_left
  simp only [Act.put, List.setIfInBounds_toArray, List.set_cons_zero, List.set_cons_succ, List.getElem_toArray, List.getElem_cons_zero, List.getElem_cons_succ]
  refine wpAnyH_take (i := 25) (v := ?_) rfl (by kernel_rfl) (by kernel_rfl) (by kernel_rfl) (fun _ _ _ h => h) (Or.inl ⟨by rfl, ?_⟩) (by assumption) ?_
  rotate_left
  · intro w hSw; (try dsimp only at hSw); go_simp; (try with_reducible rfl)
  rotate_left
  simp only [Act.put, List.setIfInBounds_toArray, List.set_cons_zero, List.set_cons_succ, List.getElem_toArray, List.getElem_cons_zero, List.getElem_cons_succ]
  refine wpAnyH_take (i := 26) (v := ?_) rfl (by kernel_rfl) (by kernel_rfl) (by kernel_rfl) (fun _ _ _ h => h) (Or.inl ⟨by rfl, ?_⟩) (by assumption) ?_
  rotate_left
  · intro w hSw; (try dsimp only at hSw); go_simp; (try with_reducible rfl)
  rotate_left
  simp only [Act.put, List.setIfInBounds_toArray, List.set_cons_zero, List.set_cons_succ, List.getElem_toArray, List.getElem_cons_zero, List.getElem_cons_succ]
  refine wpAnyH_take (i := 27) (v := ?_) rfl (by kernel_rfl) (by kernel_rfl) (by kernel_rfl) (fun _ _ _ h => h) (Or.inl ⟨by rfl, ?_⟩) (by assumption) ?_
  rotate_left
  · intro w hSw; (try dsimp only at hSw); go_simp; (try with_reducible rfl)
  rotate_left
  simp only [Act.put, List.setIfInBounds_toArray, List.set_cons_zero, List.set_cons_succ, List.getElem_toArray, List.getElem_cons_zero, List.getElem_cons_succ]
  refine wpAnyH_ready (rs := [4]) (by kernel_rfl) (by simp) ?_
  refine AllReadyH.cons rfl (fun K hK => ?_) ?_
  · go_simp
    refine (numS p8 f8 n8 c8 _ S8.out l8 (Rd.below T8.out (by repeat (first | with_reducible exact Below.refl _ _ | with_reducible refine below_alloc' ?_ _ | with_reducible refine Below.drew ?_ | with_reducible refine below_then ?_ (by assumption)))) N8.out).mono ?_
    rintro e w1 ⟨rfl, hb1⟩
    go_wp2_with fail
    refine hK.out _ _ ?_ (fun hHeld => ?_)
    · (try dsimp only); first | with_reducible exact hHeld | exact keepW hHeld hb1
    clear hK K
    (try simp only [Act.put, List.setIfInBounds_toArray, List.set_cons_zero, List.set_cons_succ, List.getElem_toArray, List.getElem_cons_zero, List.getElem_cons_succ])
    refine wpAnyH_ready (rs := [10]) (by kernel_rfl) (by simp) ?_
    refine AllReadyH.cons rfl (fun K hK => ?_) ?_
    · go_simp
      refine (numS p9 f9 n9 c9 _ S9.out l9 (Rd.below T9.out (by repeat (first | with_reducible exact Below.refl _ _ | with_reducible refine below_alloc' ?_ _ | with_reducible refine Below.drew ?_ | with_reducible refine below_then ?_ (by assumption)))) N9.out).mono ?_
      rintro e w1 ⟨rfl, hb1⟩
      go_wp2_with fail
      refine hK.out _ _ ?_ (fun hHeld => ?_)
      · (try dsimp only); first | with_reducible exact hHeld | exact keepW hHeld hb1
      clear hK K
      (try simp only [Act.put, List.setIfInBounds_toArray, List.set_cons_zero, List.set_cons_succ, List.getElem_toArray, List.getElem_cons_zero, List.getElem_cons_succ])
      refine wpAnyH_ready (rs := [16]) (by kernel_rfl) (by simp) ?_
      refine AllReadyH.cons rfl (fun K hK => ?_) ?_
      · go_simp
        refine (numS p10 f10 n10 c10 _ S10.out l10 (Rd.below T10.out (by repeat (first | with_reducible exact Below.refl _ _ | with_reducible refine below_alloc' ?_ _ | with_reducible refine Below.drew ?_ | with_reducible refine below_then ?_ (by assumption)))) N10.out).mono ?_
        rintro e w1 ⟨rfl, hb1⟩
        go_wp2_with fail
        refine hK.out _ _ ?_ (fun hHeld => ?_)
        · (try dsimp only); first | with_reducible exact hHeld | exact keepW hHeld hb1
        clear hK K
        (try simp only [Act.put, List.setIfInBounds_toArray, List.set_cons_zero, List.set_cons_succ, List.getElem_toArray, List.getElem_cons_zero, List.getElem_cons_succ])
        refine wpAnyH_ready (rs := [22]) (by kernel_rfl) (by simp) ?_
        refine AllReadyH.cons rfl (fun K hK => ?_) ?_
        · go_simp
          refine (numS p11 f11 n11 c11 _ S11.out l11 (Rd.below T11.out (by repeat (first | with_reducible exact Below.refl _ _ | with_reducible refine below_alloc' ?_ _ | with_reducible refine Below.drew ?_ | with_reducible refine below_then ?_ (by assumption)))) N11.out).mono ?_
          rintro e w1 ⟨rfl, hb1⟩
          go_wp2_with fail
          refine hK.out _ _ ?_ (fun hHeld => ?_)
          · (try dsimp only); first | with_reducible exact hHeld | exact keepW hHeld hb1
          clear hK K
          (try simp only [Act.put, List.setIfInBounds_toArray, List.set_cons_zero, List.set_cons_succ, List.getElem_toArray, List.getElem_cons_zero, List.getElem_cons_succ])
          refine wpAnyH_ready (rs := [28]) (by kernel_rfl) (by simp) ?_
          refine AllReadyH.cons rfl (fun K hK => ?_) ?_
          · go_simp
            refine (numS p12 f12 n12 c12 _ S12.out l12 (Rd.below T12.out (by repeat (first | with_reducible exact Below.refl _ _ | with_reducible refine below_alloc' ?_ _ | with_reducible refine Below.drew ?_ | with_reducible refine below_then ?_ (by assumption)))) N12.out).mono ?_
            rintro e w1 ⟨rfl, hb1⟩
            go_wp2_with fail
            refine hK.out _ _ ?_ (fun hHeld => ?_)
            · (try dsimp only); first | with_reducible exact hHeld | exact keepW hHeld hb1
            clear hK K
            (try simp only [Act.put, List.setIfInBounds_toArray, List.set_cons_zero, List.set_cons_succ, List.getElem_toArray, List.getElem_cons_zero, List.getElem_cons_succ])
            refine wpAnyH_ready (rs := [29]) (by kernel_rfl) (by simp) ?_
            refine AllReadyH.cons rfl (fun K hK => ?_) ?_
            · go_simp
              refine hK.out _ _ ?_ (fun hHeld => ?_)
              · (try dsimp only); first | with_reducible exact hHeld | exact keepW hHeld hb1
              clear hK K
              (try simp only [Act.put, List.setIfInBounds_toArray, List.set_cons_zero, List.set_cons_succ, List.getElem_toArray, List.getElem_cons_zero, List.getElem_cons_succ])
              refine wpAnyH_ready (rs := [30]) (by kernel_rfl) (by simp) ?_
              refine AllReadyH.cons rfl (fun K hK => ?_) ?_
              · obtain ⟨hA, hB, hC, hD, hE, hF⟩ := id hHeld
                obtain ⟨v0, v1, v2, v3, v4, t0, t1, t2, t3, t4, s0, s1, s2, s3, s4⟩ := there5 hF
                go_simp
                refine hK.out _ _ ?_ (fun hHeld => ?_)
                · (try dsimp only); exact keepSet hgb (keepSet hgb (keepSet hgb (keepSet hgb (keepSet hgb hHeld))))
                clear hK K
                (try simp only [Act.put, List.setIfInBounds_toArray, List.set_cons_zero, List.set_cons_succ, List.getElem_toArray, List.getElem_cons_zero, List.getElem_cons_succ])
                refine wpAnyH_done (by kernel_rfl) ?_ _
                obtain ⟨r0, r1, r2, r3, r4⟩ := set5 t0 t1 t2 t3 t4 (.int .i64 (num f8)) (.int .i64 (num f9)) (.int .i64 (num f10)) (.int .i64 (num f11)) (.int .i64 (num f12))
                have HB := Hid.mk (set5_below (w := w) (b := w.heap.size) (Nat.le_refl _) (show Below w.heap.size w w1 by repeat (first | with_reducible exact HWB.out | with_reducible refine Below.drew ?_ | with_reducible refine below_then ?_ (by assumption))) (.int .i64 (num f8)) (.int .i64 (num f9)) (.int .i64 (num f10)) (.int .i64 (num f11)) (.int .i64 (num f12)))
                obtain ⟨Z, hZ⟩ : ∃ Z, Z = (((((w1.setCell ⟨w.heap.size, 0, none⟩ (.int .i64 (num f8))).setCell ⟨w.heap.size, 1, none⟩ (.int .i64 (num f9))).setCell ⟨w.heap.size, 2, none⟩ (.int .i64 (num f10))).setCell ⟨w.heap.size, 3, none⟩ (.int .i64 (num f11))).setCell ⟨w.heap.size, 4, none⟩ (.int .i64 (num f12))) := ⟨_, rfl⟩
                rw [← hZ] at r0 r1 r2 r3 r4 HB ⊢
                clear hZ hHeld t0 t1 t2 t3 t4 s0 s1 s2 s3 s4
                go_wp2
                refine bodyPost_ret (by simp [results, Tryz.results24, go_sem, r0, r1, r2, r3, r4]; try rfl) rfl ?_
                exact ⟨rfl, HB.out⟩
              exact AllReadyH.nil
            exact AllReadyH.nil
          exact AllReadyH.nil
        exact AllReadyH.nil
      exact AllReadyH.nil
    exact AllReadyH.nil
  exact AllReadyH.nil
end Go.Proofs.YtdhnjkcebaahcaaGreatDoor.Parse
