import Derived.Test.YtefkdpppcjlflaaGreatDoorIt13
namespace Go.Proofs.YtefkdpppcjlflaaGreatDoor.Parse
open Go Go.RowKit Go.Proofs.YtefkdpppcjlflaaGreatDoor.Mem Go.Proofs.YtefkdpppcjlflaaGreatDoor.Valid
set_option linter.unusedVariables false
set_option linter.unusedSimpArgs false
attribute [local go_sem ↓] Go.wp_at_zero Go.wp_at_succ

def reqR (bs : List UInt8) : Req := ⟨numV (fN bs 0), tgsV (fN bs 1), numV (fN bs 2), numV (fN bs 3), numV (fN bs 4), numV (fN bs 5), numV (fN bs 6), numV (fN bs 7), numV (fN bs 8), numV (fN bs 9), numV (fN bs 10), numV (fN bs 11)⟩
def badQ (bs : List UInt8) : Bool := bads (bads ((false || !isNum (fN bs 0)) || !isTags (fN bs 1)) (nxt 2 bs) 5) (nxt 7 bs) 5
def codeQ (bs : List UInt8) (s : Acc) : Int := if badQ bs then 6 else (addQ s (reqR bs)).1

set_option maxHeartbeats 3200000 in
set_option maxRecDepth 1000000 in
theorem addQI (B r g : Nat) (bs : List UInt8) (w : World) (v1 v2 v3 : Value) (s : Acc) (k : Int) (hB : B ≤ g) (hBr : B ≤ r) (hBs : B ≤ w.heap.size) (hne : r ≠ g) (h : Cur B g w bs false) (hr : Rdr B r w v1 v2 v3 s k) (hl : bs.length ≤ 1000000) (hsz : s.Q.length ≤ 1000) :
    Calls Tryz.prog 56 #[.pointer (some ⟨r, 0, none⟩), .pointer (some ⟨g, 0, none⟩)] w fun e w' => e = .returned (evC (codeQ bs s)) ∧ (codeQ bs s = 0 → ∃ u, Rdr B r w' v1 u v3 (addQ s (reqR bs)).2 k) ∧ Below B w w' := by
  have HCur := Hid.mk h
  have HRd := Hid.mk hr
  obtain ⟨bd, hbd⟩ : ∃ bd, bd = badQ bs := ⟨_, rfl⟩
  have HC0 := Hid.mk (requestI B g bs false w hB hBs h hl)
  obtain ⟨v, hv⟩ : ∃ v, v = reqR bs := ⟨_, rfl⟩
  have HC : Hid (Calls Tryz.prog 71 #[.pointer (some ⟨g, 0, none⟩)] w fun e w' => e = .returned (.agg #[.int .i64 v.a, .int .i64 v.b, .int .i64 v.x, .int .i64 v.y, .int .i64 v.o, .int .i64 v.c, .int .i64 v.h, .int .i64 v.x', .int .i64 v.y', .int .i64 v.o', .int .i64 v.c', .int .i64 v.h']) ∧ Cur B g w' (nxt 12 bs) bd ∧ w.grownBy w' (some g)) := by
    unfold Hid; rw [hv, hbd]; exact HC0.out
  have HV := Hid.mk hv
  have hcode : Hid (codeQ bs s = if bd then 6 else (addQ s v).1) := by unfold Hid codeQ; rw [hbd, hv]
  clear h hr HC0 hbd
  rw [← hv]
  clear hv
  obtain ⟨a1, c1, hv1, hc1⟩ := row_shape HRd.out.acc.q
  subst hv1
  obtain ⟨N, hN⟩ : ∃ N, N = s.Q.length := ⟨_, rfl⟩
  have HN := Hid.mk hN
  rw [← hN] at hsz HRd
  clear hN
  cases bd with
  | true =>
    have HE : Hid (codeQ bs s = 6) := by unfold Hid; rw [hcode.out]; rfl
    go_enter Tryz.func56, Tryz.ntmps56
    go_wp2_with (go_at_call 71; refine HC.out.mono ?_; rintro e w1 ⟨rfl, c1, g1⟩; have x1 : ∀ o, (w1.alloc o).cell? ⟨g, 1, none⟩ = some (.iface 64 (.agg #[.int .i64 6])) := (by intro o; obtain ⟨u, hx, -⟩ := c1; rw [blk_cell (blk_alloc hx o) 1]; rfl); have B1 : Hid (Below B w w1) := gr_below g1 hB hBs; clear c1 g1)
    go_ret
    rw [HE.out]
    exact ⟨rfl, fun h => by omega, B1.out.alloc (Nat.le_trans hBs B1.out.size) _⟩
  | false =>
    have HE : Hid (codeQ bs s = (addQ s v).1) := hcode
    cases hgv : gReq v.a v.b v.x v.y v.o v.c v.h v.x' v.y' v.o' v.c' v.h' with
    | false =>
      have HA : Hid ((addQ s v).1 = 7) := by unfold Hid addQ; rw [hgv]; rfl
      have HG := Hid.mk hgv
      clear hgv
      go_enter Tryz.func56, Tryz.ntmps56
      go_wp2_with (first
        | (go_at_call 71; refine HC.out.mono ?_; rintro e w1 ⟨rfl, c1, g1⟩; have x1 : ∀ o, (w1.alloc o).cell? ⟨g, 1, none⟩ = some (.nilIface) := (by intro o; obtain ⟨u, hx, -⟩ := c1; rw [blk_cell (blk_alloc hx o) 1]; rfl); have B1 : Hid (Below B w w1) := gr_below g1 hB hBs; clear c1 g1)
        | (go_at_call 34; refine (reqI _ _ _ _ _ _ _ _ _ _ _ _ _).mono ?_; rintro e w3 ⟨rfl, b3⟩; rw [HG.out]; have B3 : Hid (Below B w w3) := (B1.out.alloc (Nat.le_trans hBs B1.out.size) _).trans (b3.mono (by simp; exact Nat.le_succ_of_le (Nat.le_trans hBs B1.out.size))); clear b3))
      go_ret
      rw [HE.out, HA.out]
      exact ⟨rfl, fun h => by omega, B3.out⟩
    | true =>
      have HG := Hid.mk hgv
      by_cases hmx : N = 1000
      · have HA : Hid ((addQ s v).1 = 9) := by unfold Hid addQ; rw [hgv, if_neg (by decide), if_pos (by rw [← HN.out]; exact hmx)]
        have nmx : ((N : Int) == 1000) = true := by simp; omega
        have hmx' := Hid.mk hmx
        clear hgv hmx
        go_enter Tryz.func56, Tryz.ntmps56
        go_wp2_with (first
          | (go_at_call 71; refine HC.out.mono ?_; rintro e w1 ⟨rfl, c1, g1⟩; have x1 : ∀ o, (w1.alloc o).cell? ⟨g, 1, none⟩ = some (.nilIface) := (by intro o; obtain ⟨u, hx, -⟩ := c1; rw [blk_cell (blk_alloc hx o) 1]; rfl); have B1 : Hid (Below B w w1) := gr_below g1 hB hBs; have R1 := Hid.mk (HRd.out.grown HCur.out g1 hne); clear c1 g1)
          | (go_at_call 34; refine (reqI _ _ _ _ _ _ _ _ _ _ _ _ _).mono ?_; rintro e w3 ⟨rfl, b3⟩; rw [HG.out]; have B3 : Hid (Below B w w3) := (B1.out.alloc (Nat.le_trans hBs B1.out.size) _).trans (b3.mono (by simp; exact Nat.le_succ_of_le (Nat.le_trans hBs B1.out.size))); have R3 := Hid.mk ((R1.out.below ((Below.refl _ _).alloc (Nat.le_refl _) _)).below b3); have y0 := blk_cell R3.out.blk 1; simp only [List.getElem?_toArray, List.getElem?_cons_zero, List.getElem?_cons_succ] at y0; clear b3))
        go_ret
        rw [HE.out, HA.out]
        exact ⟨rfl, fun h => by omega, B3.out⟩
      · have HA : Hid ((addQ s v).1 = 0 ∧ (addQ s v).2 = { s with Q := s.Q ++ [v] }) := by unfold Hid addQ; rw [hgv, if_neg (by decide), if_neg (by rw [← HN.out]; exact hmx)]; exact ⟨rfl, rfl⟩
        have nmx : ((N : Int) == 1000) = false := by simp; omega
        clear hgv
        obtain ⟨i0, hi, hz0, hz1, hz2⟩ := info_parts info2
        go_enter Tryz.func56, Tryz.ntmps56
        go_wp2_with (first
          | (go_at_call 71; refine HC.out.mono ?_; rintro e w1 ⟨rfl, c1, g1⟩; have x1 : ∀ o, (w1.alloc o).cell? ⟨g, 1, none⟩ = some (.nilIface) := (by intro o; obtain ⟨u, hx, -⟩ := c1; rw [blk_cell (blk_alloc hx o) 1]; rfl); have B1 : Hid (Below B w w1) := gr_below g1 hB hBs; have R1 := Hid.mk (HRd.out.grown HCur.out g1 hne); clear c1 g1)
          | (go_at_call 34; refine (reqI _ _ _ _ _ _ _ _ _ _ _ _ _).mono ?_; rintro e w3 ⟨rfl, b3⟩; rw [HG.out]; have B3 : Hid (Below B w w3) := (B1.out.alloc (Nat.le_trans hBs B1.out.size) _).trans (b3.mono (by simp; exact Nat.le_succ_of_le (Nat.le_trans hBs B1.out.size))); have VB := Hid.mk (blk_below (blk_new w1 _) b3); have R3 := Hid.mk ((R1.out.below ((Below.refl _ _).alloc (Nat.le_refl _) _)).below b3); have y0 := blk_cell R3.out.blk 1; simp only [List.getElem?_toArray, List.getElem?_cons_zero, List.getElem?_cons_succ] at y0; clear b3))
        have yd : w3.drew.cell? ⟨r, 1, none⟩ = some (.slice a1 N c1) := y0
        have ya : ∀ o, (w3.alloc o).drew.cell? ⟨r, 1, none⟩ = some (.slice a1 N c1) := fun o => cell_alloc' y0 o
        have yb : ∀ o, (w3.drew.alloc o).cell? ⟨r, 1, none⟩ = some (.slice a1 N c1) := fun o => cell_alloc' (w := w3.drew) y0 o
        have q0 : w3.drew.cell? ⟨w1.heap.size, 0, none⟩ = some (.int .i64 v.a) := (blk_cell VB.out 0).trans rfl
        have q1 : w3.drew.cell? ⟨w1.heap.size, 1, none⟩ = some (.int .i64 v.b) := (blk_cell VB.out 1).trans rfl
        have q2 : w3.drew.cell? ⟨w1.heap.size, 2, none⟩ = some (.int .i64 v.x) := (blk_cell VB.out 2).trans rfl
        have q3 : w3.drew.cell? ⟨w1.heap.size, 3, none⟩ = some (.int .i64 v.y) := (blk_cell VB.out 3).trans rfl
        have q4 : w3.drew.cell? ⟨w1.heap.size, 4, none⟩ = some (.int .i64 v.o) := (blk_cell VB.out 4).trans rfl
        have q5 : w3.drew.cell? ⟨w1.heap.size, 5, none⟩ = some (.int .i64 v.c) := (blk_cell VB.out 5).trans rfl
        have q6 : w3.drew.cell? ⟨w1.heap.size, 6, none⟩ = some (.int .i64 v.h) := (blk_cell VB.out 6).trans rfl
        have q7 : w3.drew.cell? ⟨w1.heap.size, 7, none⟩ = some (.int .i64 v.x') := (blk_cell VB.out 7).trans rfl
        have q8 : w3.drew.cell? ⟨w1.heap.size, 8, none⟩ = some (.int .i64 v.y') := (blk_cell VB.out 8).trans rfl
        have q9 : w3.drew.cell? ⟨w1.heap.size, 9, none⟩ = some (.int .i64 v.o') := (blk_cell VB.out 9).trans rfl
        have q10 : w3.drew.cell? ⟨w1.heap.size, 10, none⟩ = some (.int .i64 v.c') := (blk_cell VB.out 10).trans rfl
        have q11 : w3.drew.cell? ⟨w1.heap.size, 11, none⟩ = some (.int .i64 v.h') := (blk_cell VB.out 11).trans rfl
        have HRow : Hid (w3.ownsRow B 48 12 (.slice a1 N c1) N (s.Q.flatMap Req.cells)) := by unfold Hid; have := R3.out.acc.q; rwa [← HN.out] at this
        have hB3 : B ≤ w3.heap.size := Nat.le_trans hBs B3.out.size
        go_region_law (refine step_append_own rfl (.tmp 39) (.tmp 41) 24 rfl B 48 i0 (.agg #[.int .i64 0, .int .i64 0, .int .i64 0, .int .i64 0, .int .i64 0, .int .i64 0, .int .i64 0, .int .i64 0, .int .i64 0, .int .i64 0, .int .i64 0, .int .i64 0]) 12 96 Tryz.underlying24 hi hz0 hz1 hz2 rfl (by decide) (.slice a1 N c1) N (s.Q.flatMap Req.cells) (by simp [Act.eval, Act.put]) (HRow.out.alloc (.cells v.cells.toArray 48)) ⟨w3.heap.size, 0, none⟩ 1 1 v.cells (by simp [Act.eval, Act.put]) rfl (news_at w3 v.cells 48) (by intro u hu; simp only [Req.cells, List.mem_cons, List.not_mem_nil, or_false] at hu; rcases hu with rfl | rfl | rfl | rfl | rfl | rfl | rfl | rfl | rfl | rfl | rfl | rfl <;> rfl) (by unfold maxLen; omega) (by omega) (by simp; omega) ?_; intro vn w7 hown hgrow; obtain ⟨an, cn, rfl, -⟩ := row_shape hown; obtain ⟨b9, t9, l9⟩ := app9 hgrow HRow.out R3.out.blk (by decide) hB3; have B9 := Hid.mk b9; have P9 := Hid.mk (t9 _ _ _ _ _ (by decide) R3.out.acc.v); have S9 := Hid.mk (t9 _ _ _ _ _ (by decide) R3.out.acc.r); have L9 := Hid.mk (l9 _ B3.out); have R9 : Hid (w7.ownsRow B 48 12 (.slice an (N + 1) cn) (s.Q ++ [v]).length ((s.Q ++ [v]).flatMap Req.cells)) := (by unfold Hid; rw [List.length_append, List.length_singleton, List.flatMap_append, ← HN.out]; simpa using hown); have z0 : w7.cell? ⟨r, 1, none⟩ = some (.slice a1 N c1) := (blk_cell B9.out 1).trans rfl; have f0 : w7.frozen? ⟨r, 1, none⟩ = false := blk_unfrozen B9.out 1; clear hown hgrow b9 t9 l9)
        all_goals go_wp2
        all_goals go_ret
        all_goals (rw [HE.out, HA.out.1, HA.out.2]; exact ⟨rfl, fun _ => ⟨_, blk_set B9.out 1 _, row_set P9.out B9.out (by decide), row_set R9.out B9.out (by decide), row_set S9.out B9.out (by decide)⟩, L9.out.setCell (p := ⟨r, 1, none⟩) hBr _⟩)
end Go.Proofs.YtefkdpppcjlflaaGreatDoor.Parse
