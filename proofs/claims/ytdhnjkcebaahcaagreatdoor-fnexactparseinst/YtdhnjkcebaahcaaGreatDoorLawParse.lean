import Derived.Test.YtdhnjkcebaahcaaGreatDoorRowsL
import Derived.Test.YtdhnjkcebaahcaaGreatDoorParseS
import Derived.Test.YtdhnjkcebaahcaaGreatDoorEqR
namespace Go.Proofs.YtdhnjkcebaahcaaGreatDoor.Parse
open Go Go.RowKit Go.Proofs.YtdhnjkcebaahcaaGreatDoor.Mem Go.Proofs.YtdhnjkcebaahcaaGreatDoor.Valid
set_option linter.unusedVariables false
set_option linter.unusedSimpArgs false
attribute [local go_sem ↓] Go.wp_at_zero Go.wp_at_succ

theorem row_ne {w w' : World} {B n sz g : Nat} {v : Value} {t : TypeId} {xs : List Value} (h : w.ownsRow B t sz v n xs) (hg : w.grownBy w' (some g)) (hne : g < B) : w'.ownsRow B t sz v n xs := by
  refine ⟨h.1, ?_⟩
  rcases h.2 with h0 | ⟨b, cap, cur, h1, h2, h3, h4⟩
  · exact Or.inl h0
  · exact Or.inr ⟨b, cap, cur, h1, h2, blk_grown h3 hg (by omega), h4⟩
theorem AccAt.ne {B g : Nat} {w w' : World} {v1 v2 v3 : Value} {s : Acc} (h : AccAt B w v1 v2 v3 s) (hg : w.grownBy w' (some g)) (hne : g < B) : AccAt B w' v1 v2 v3 s := ⟨row_ne h.v hg hne, row_ne h.q hg hne, row_ne h.r hg hne⟩

set_option maxHeartbeats 8000000 in
set_option maxRecDepth 1000000 in
theorem law (a : Option Addr) (t : List UInt8) (n c : Nat) (w : World) (hn : n = t.length) (hc : n ≤ c) (hr : Rd w a t)
    (hg : w.cell? ⟨0, 0, none⟩ = some (.iface 103 (.agg #[.pointer (some ⟨2, 44, none⟩)]))) :
    Calls Tryz.prog 3 #[.slice a n c] w fun e w' => e = .returned (.bool true) ∧ Below w.heap.size w w' := by
  have HN := Hid.mk hn
  have HR := Hid.mk hr
  have HG := Hid.mk hg
  clear hn hr hg
  by_cases hbig : 1048576 < n
  · have hb' : (1048576 : Int) < (n : Int) := by omega
    go_enter Tryz.func3, Tryz.ntmps3
    go_wp2
    go_ret
    exact ⟨rfl, Below.refl _ _⟩
  have hb' : decide ((1048576 : Int) < (n : Int)) = false := by simp; omega
  have hl : n ≤ 1048576 := by omega
  obtain ⟨s, hs⟩ : ∃ s, s = (parseT t).acc := ⟨_, rfl⟩
  obtain ⟨e, he⟩ : ∃ e, e = (parseT t).err := ⟨_, rfl⟩
  obtain ⟨l, hle⟩ : ∃ l, l = (parseT t).line := ⟨_, rfl⟩
  have HSm := Hid.mk (parseT_small t)
  have CS : Hid (∀ a n c w, n = t.length → Rd w a t → n ≤ 1048576 → Calls Tryz.prog 4 #[.slice a n c] w fun r w' => ∃ v1 v2 v3, r = .returned (.agg #[.int .i64 e, .int .i64 l, v1, v2, v3]) ∧ AccAt w.heap.size w' v1 v2 v3 s ∧ Below w.heap.size w w') := by
    intro a n c w h1 h2 h3; rw [he, hle, hs]; exact parseS a t n c w h1 h2 h3
  have CI : Hid (∀ a n c w, n = t.length → n ≤ c → Rd w a t → n ≤ 1048576 → w.cell? ⟨0, 0, none⟩ = some (.iface 103 (.agg #[.pointer (some ⟨2, 44, none⟩)])) → Calls Tryz.prog 6 #[.slice a n c] w fun r w' => ∃ v1 v2 v3, r = .returned (.agg #[.int .i64 e, .int .i64 l, v1, v2, v3]) ∧ AccAt w.heap.size w' v1 v2 v3 s ∧ Below w.heap.size w w') := by
    intro a n c w h1 h2 h3 h4 h5; rw [he, hle, hs]; exact parseI a t n c w h1 h2 h3 h4 h5
  rw [← hs] at HSm
  clear hs he hle
  have q1 : (inOf s).nV ≤ 1048576 := by have := HSm.out.v; show s.V.length ≤ _; omega
  have q2 : (inOf s).nQ ≤ 1048576 := by have := HSm.out.q; show s.Q.length ≤ _; omega
  have q3 : (inOf s).nR ≤ 1048576 := by have := HSm.out.r; show s.R.length ≤ _; omega
  obtain ⟨N1, hN1⟩ : ∃ N, N = s.V.length := ⟨_, rfl⟩
  obtain ⟨N2, hN2⟩ : ∃ N, N = s.Q.length := ⟨_, rfl⟩
  obtain ⟨N3, hN3⟩ : ∃ N, N = s.R.length := ⟨_, rfl⟩
  have l1 : N1 ≤ 64 := by rw [hN1]; exact HSm.out.v
  have l2 : N2 ≤ 1000 := by rw [hN2]; exact HSm.out.q
  have l3 : N3 ≤ 4000 := by rw [hN3]; exact HSm.out.r
  have EN : Hid (s.V.length = N1 ∧ s.Q.length = N2 ∧ s.R.length = N3) := ⟨hN1.symm, hN2.symm, hN3.symm⟩
  clear hN1 hN2 hN3
  have CE : Hid (∀ a1 a2 a3 b1 b2 b3 c1 c2 c3 d1 d2 d3 w, InAt w a1 a2 a3 (inOf s) → InAt w b1 b2 b3 (inOf s) → Calls Tryz.prog 7 #[.agg #[.int .i64 e, .int .i64 l, .slice a1 N1 c1, .slice a2 N2 c2, .slice a3 N3 c3], .agg #[.int .i64 e, .int .i64 l, .slice b1 N1 d1, .slice b2 N2 d2, .slice b3 N3 d3]] w fun e w' => e = .returned (.bool true) ∧ Below w.heap.size w w') := by
    intro a1 a2 a3 b1 b2 b3 c1 c2 c3 d1 d2 d3 w h1 h2
    rw [← EN.out.1, ← EN.out.2.1, ← EN.out.2.2]
    exact Eq.eqInstRes a1 a2 a3 b1 b2 b3 c1 c2 c3 d1 d2 d3 e l (inOf s) w h1 h2 q1 q2 q3
  have SH : Hid (∀ B w v1 v2 v3, AccAt B w v1 v2 v3 s → ∃ a1 a2 a3 c1 c2 c3, v1 = .slice a1 N1 c1 ∧ v2 = .slice a2 N2 c2 ∧ v3 = .slice a3 N3 c3 ∧ InAt w a1 a2 a3 (inOf s)) := by
    intro B w v1 v2 v3 h
    rw [← EN.out.1, ← EN.out.2.1, ← EN.out.2.2]
    exact h.shape
  clear q1 q2 q3
  go_enter Tryz.func3, Tryz.ntmps3
  go_wp2_with fail
  refine (toByteS a t n c _ HN.out HR.out hl).mono ?_
  rintro r w1 ⟨rfl, b1, -, r1, z1⟩
  have B1 := Hid.mk b1
  have R1 := Hid.mk r1
  clear b1 r1
  go_wp2_with fail
  refine (CS.out _ n n _ HN.out R1.out hl).mono ?_
  rintro r w2 ⟨v1, v2, v3, rfl, hA2, b2⟩
  obtain ⟨p1, p2, p3, k1, k2, k3, rfl, rfl, rfl, hI2⟩ := SH.out _ _ _ _ _ hA2
  have I2 := Hid.mk hI2
  have B2 := Hid.mk (below_then B1.out b2)
  have zB : w.heap.size ≤ w2.heap.size := B2.out.size
  clear hA2 hI2 b2 R1 B1
  go_wp2_with fail
  obtain ⟨W2, hW2⟩ : ∃ W2, W2 = w2.alloc (.cells #[.int .i64 e, .int .i64 l, .slice p1 N1 k1, .slice p2 N2 k2, .slice p3 N3 k3] 29) := ⟨_, rfl⟩
  rw [← hW2]
  have X2 : Hid (W2.heap[w2.heap.size]? = some (.cells #[.int .i64 e, .int .i64 l, .slice p1 N1 k1, .slice p2 N2 k2, .slice p3 N3 k3] 29)) := by rw [hW2]; exact blk_new _ _
  have D2 : Hid (Below w2.heap.size w2 W2) := by rw [hW2]; exact below_alloc' (Below.refl _ _) _
  have z2 : w2.heap.size < W2.heap.size := by rw [hW2]; simp
  clear hW2
  refine (toByteS a t n c _ HN.out (HR.out.below (below_then B2.out D2.out)) hl).mono ?_
  rintro r w3 ⟨rfl, b3, t3, r3, z3⟩
  have B3 := Hid.mk (below_then (below_then B2.out D2.out) b3)
  have D3 := Hid.mk (below_then D2.out b3)
  have X3 := Hid.mk (blk_below X2.out b3)
  have T3 := Hid.mk t3
  have R3 := Hid.mk r3
  clear b3 t3 r3 B2 D2 X2
  go_wp2_with fail
  refine (CI.out _ n n _ HN.out (Nat.le_refl _) R3.out hl (cell_keep B3.out HG.out)).mono ?_
  rintro r w4 ⟨v1, v2, v3, rfl, hA4, b4⟩
  obtain ⟨g1, g2, g3, h1, h2, h3, rfl, rfl, rfl, hI4⟩ := SH.out _ _ _ _ _ hA4
  have A4 := Hid.mk hA4
  have B4 := Hid.mk (below_then B3.out b4)
  have D4 := Hid.mk (below_then D3.out b4)
  have X4 := Hid.mk (blk_below X3.out b4)
  have T4 := Hid.mk (there_below T3.out z3 b4)
  have R4 := Hid.mk (R3.out.below b4)
  have z4 := b4.size
  clear hA4 hI4 b4 R3 T3 X3 D3 B3
  obtain ⟨W4, hW4⟩ : ∃ W4, W4 = w4.alloc (.cells #[.int .i64 e, .int .i64 l, .slice g1 N1 h1, .slice g2 N2 h2, .slice g3 N3 h3] 29) := ⟨_, rfl⟩
  have Y4 : Hid (W4.heap[w4.heap.size]? = some (.cells #[.int .i64 e, .int .i64 l, .slice g1 N1 h1, .slice g2 N2 h2, .slice g3 N3 h3] 29)) := by rw [hW4]; exact blk_new _ _
  have d4 : Below w4.heap.size w4 W4 := by rw [hW4]; exact below_alloc' (Below.refl _ _) _
  have z5 : w4.heap.size < W4.heap.size := by rw [hW4]; simp
  have A5 := Hid.mk (A4.out.below d4)
  have B5 := Hid.mk (below_then B4.out d4)
  have D5 := Hid.mk (below_then D4.out d4)
  have X5 := Hid.mk (blk_below X4.out d4)
  have T5 := Hid.mk (there_below T4.out (by omega) d4)
  have R5 := Hid.mk (R4.out.below d4)
  have hq : ∀ o, (w4.alloc o).cell? ⟨w2.heap.size, 0, none⟩ = some (.int .i64 e) ∧ (w4.alloc o).cell? ⟨w2.heap.size, 1, none⟩ = some (.int .i64 l) ∧ (w4.alloc o).cell? ⟨w2.heap.size, 2, none⟩ = some (.slice p1 N1 k1) ∧ (w4.alloc o).cell? ⟨w2.heap.size, 3, none⟩ = some (.slice p2 N2 k2) ∧ (w4.alloc o).cell? ⟨w2.heap.size, 4, none⟩ = some (.slice p3 N3 k3) := fun o => ⟨(blk_cell (blk_alloc X4.out o) 0).trans rfl, (blk_cell (blk_alloc X4.out o) 1).trans rfl, (blk_cell (blk_alloc X4.out o) 2).trans rfl, (blk_cell (blk_alloc X4.out o) 3).trans rfl, (blk_cell (blk_alloc X4.out o) 4).trans rfl⟩
  have hq0 := fun o => (hq o).1
  have hq1 := fun o => (hq o).2.1
  have hq2 := fun o => (hq o).2.2.1
  have hq3 := fun o => (hq o).2.2.2.1
  have hq4 := fun o => (hq o).2.2.2.2
  clear hq d4 A4 B4 D4 X4 T4 R4
  go_wp2_with fail
  rw [← hW4]
  clear hW4 hq0 hq1 hq2 hq3 hq4
  obtain ⟨j1, j2, j3, i1, i2, i3, e1, e2, e3, hI5⟩ := SH.out _ _ _ _ _ A5.out
  injection e1 with e1 _ e1'
  injection e2 with e2 _ e2'
  injection e3 with e3 _ e3'
  subst e1 e2 e3 e1' e2' e3'
  refine (CE.out _ _ _ _ _ _ _ _ _ _ _ _ _ hI5 (I2.out.below D5.out)).mono ?_
  rintro r w6 ⟨rfl, b6⟩
  have A6 := Hid.mk (A5.out.below b6)
  have B6 := Hid.mk (below_then B5.out b6)
  have D6 := Hid.mk (below_then D5.out b6)
  have X6 := Hid.mk (blk_below X5.out b6)
  have Y6 := Hid.mk (blk_below Y4.out b6)
  have T6 := Hid.mk (there_below T5.out (by omega) b6)
  have R6 := Hid.mk (R5.out.below b6)
  have z6 := b6.size
  clear b6 hI5 A5 B5 D5 X5 Y4 T5 R5
  go_wp2_with fail
  refine (toByteS a t n c _ HN.out (HR.out.below B6.out) hl).mono ?_
  rintro r w7 ⟨rfl, b7, -, r7, z7⟩
  have A7 := Hid.mk (A6.out.below b7)
  have B7 := Hid.mk (below_then B6.out b7)
  have D7 := Hid.mk (below_then D6.out b7)
  have X7 := Hid.mk (blk_below X6.out b7)
  have Y7 := Hid.mk (blk_below Y6.out b7)
  have T7 := Hid.mk (there_below T6.out (by omega) b7)
  have R7 := Hid.mk (R6.out.below b7)
  have V7 := Hid.mk r7
  clear b7 r7 A6 B6 D6 X6 Y6 T6 R6
  go_wp2_with fail
  refine (eqBytesP _ _ t n _ _ _ HN.out R7.out V7.out (by omega)).mono ?_
  rintro r w8 ⟨rfl, b8⟩
  have A8 := Hid.mk (A7.out.below b8)
  have B8 := Hid.mk (below_then B7.out b8)
  have D8 := Hid.mk (below_then D7.out b8)
  have X8 := Hid.mk (blk_below X7.out b8)
  have Y8 := Hid.mk (blk_below Y7.out b8)
  have T8 := Hid.mk (there_below T7.out (by omega) b8)
  have z8 := b8.size
  clear b8 A7 B7 D7 X7 Y7 T7 R7 V7
  go_wp2_with fail
  refine (markBytesP W2.heap.size n n 1 _ T8.out hl (by omega) (by omega)).mono ?_
  rintro r w9 ⟨rfl, g9⟩
  have A9 := Hid.mk (A8.out.ne g9 (by omega))
  have B9 : Hid (Below w.heap.size w w9) := B8.out.trans (gr_below g9 (by have := B8.out.size; omega) (by have := B8.out.size; omega))
  have D9 : Hid (Below w2.heap.size w2 w9) := D8.out.trans (gr_below g9 (by omega) (by have := D8.out.size; omega))
  have X9 := Hid.mk (blk_grown X8.out g9 (by omega))
  have Y9 := Hid.mk (blk_grown Y8.out g9 (by omega))
  have z9 := g9.size
  have kk : decide ((1 : Int) + (n : Int) < 0) = false := by simp; omega
  clear g9 A8 B8 D8 X8 Y8 T8
  have x0 : w9.cell? ⟨w2.heap.size, 0, none⟩ = some (.int .i64 e) := (blk_cell X9.out 0).trans rfl
  have x1 : w9.cell? ⟨w2.heap.size, 1, none⟩ = some (.int .i64 l) := (blk_cell X9.out 1).trans rfl
  have x2 : w9.cell? ⟨w2.heap.size, 2, none⟩ = some (.slice p1 N1 k1) := (blk_cell X9.out 2).trans rfl
  have x3 : w9.cell? ⟨w2.heap.size, 3, none⟩ = some (.slice p2 N2 k2) := (blk_cell X9.out 3).trans rfl
  have x4 : w9.cell? ⟨w2.heap.size, 4, none⟩ = some (.slice p3 N3 k3) := (blk_cell X9.out 4).trans rfl
  have y0 : w9.cell? ⟨w4.heap.size, 0, none⟩ = some (.int .i64 e) := (blk_cell Y9.out 0).trans rfl
  have y1 : w9.cell? ⟨w4.heap.size, 1, none⟩ = some (.int .i64 l) := (blk_cell Y9.out 1).trans rfl
  have y2 : w9.cell? ⟨w4.heap.size, 2, none⟩ = some (.slice g1 N1 h1) := (blk_cell Y9.out 2).trans rfl
  have y3 : w9.cell? ⟨w4.heap.size, 3, none⟩ = some (.slice g2 N2 h2) := (blk_cell Y9.out 3).trans rfl
  have y4 : w9.cell? ⟨w4.heap.size, 4, none⟩ = some (.slice g3 N3 h3) := (blk_cell Y9.out 4).trans rfl
  go_wp2_with fail
  clear x0 x1 x2 x3 x4 y0 y1 y2 y3 y4
  obtain ⟨j1, j2, j3, i1, i2, i3, e1, e2, e3, hI9⟩ := SH.out _ _ _ _ _ A9.out
  injection e1 with e1 _ e1'
  injection e2 with e2 _ e2'
  injection e3 with e3 _ e3'
  subst e1 e2 e3 e1' e2' e3'
  refine (CE.out _ _ _ _ _ _ _ _ _ _ _ _ _ hI9 (I2.out.below D9.out)).mono ?_
  rintro r w10 ⟨rfl, b10⟩
  have A10 := Hid.mk (A9.out.below b10)
  have B10 := Hid.mk (below_then B9.out b10)
  have D10 := Hid.mk (below_then D9.out b10)
  have X10 := Hid.mk (blk_below X9.out b10)
  have Y10 := Hid.mk (blk_below Y9.out b10)
  have z10 := b10.size
  clear b10 hI9 A9 B9 D9 X9 Y9
  have y0 : w10.cell? ⟨w4.heap.size, 0, none⟩ = some (.int .i64 e) := (blk_cell Y10.out 0).trans rfl
  have y1 : w10.cell? ⟨w4.heap.size, 1, none⟩ = some (.int .i64 l) := (blk_cell Y10.out 1).trans rfl
  have y2 : w10.cell? ⟨w4.heap.size, 2, none⟩ = some (.slice g1 N1 h1) := (blk_cell Y10.out 2).trans rfl
  have y3 : w10.cell? ⟨w4.heap.size, 3, none⟩ = some (.slice g2 N2 h2) := (blk_cell Y10.out 3).trans rfl
  have y4 : w10.cell? ⟨w4.heap.size, 4, none⟩ = some (.slice g3 N3 h3) := (blk_cell Y10.out 4).trans rfl
  go_wp2_with fail
  clear y0 y1 y2 y3 y4
  have RW : Hid (Rw w3.heap.size w10 58 7 (.slice g1 N1 h1) N1 ∧ Rw w3.heap.size w10 61 12 (.slice g2 N2 h2) N2 ∧ Rw w3.heap.size w10 64 3 (.slice g3 N3 h3) N3) := by
    have h1' := row_rw A10.out.v
    have h2' := row_rw A10.out.q
    have h3' := row_rw A10.out.r
    rw [EN.out.1] at h1'
    rw [EN.out.2.1] at h2'
    rw [EN.out.2.2] at h3'
    exact ⟨h1', h2', h3'⟩
  refine (markResP w3.heap.size e l _ _ _ N1 N2 N3 _ RW.out.1 RW.out.2.1 RW.out.2.2 (by omega) l1 l2 l3).mono ?_
  rintro r w11 ⟨rfl, m11, f11⟩
  have M11 := Hid.mk m11
  have B11 : Hid (Below w.heap.size w w11) := B10.out.trans (f11.below.mono (by omega))
  have D11 : Hid (Below w2.heap.size w2 w11) := D10.out.trans (f11.below.mono (by omega))
  have X11 := Hid.mk (f11.kept _ _ _ _ X10.out (by decide) (by decide) (by decide))
  have Y11 := Hid.mk (f11.kept _ _ _ _ Y10.out (by decide) (by decide) (by decide))
  have z11 := f11.below.size
  clear m11 f11 A10 B10 D10 X10 Y10 RW
  have y0 : w11.cell? ⟨w4.heap.size, 0, none⟩ = some (.int .i64 e) := (blk_cell Y11.out 0).trans rfl
  have y1 : w11.cell? ⟨w4.heap.size, 1, none⟩ = some (.int .i64 l) := (blk_cell Y11.out 1).trans rfl
  have y2 : w11.cell? ⟨w4.heap.size, 2, none⟩ = some (.slice g1 N1 h1) := (blk_cell Y11.out 2).trans rfl
  have y3 : w11.cell? ⟨w4.heap.size, 3, none⟩ = some (.slice g2 N2 h2) := (blk_cell Y11.out 3).trans rfl
  have y4 : w11.cell? ⟨w4.heap.size, 4, none⟩ = some (.slice g3 N3 h3) := (blk_cell Y11.out 4).trans rfl
  go_wp2_with fail
  clear y0 y1 y2 y3 y4
  refine (heldResP e l _ _ _ N1 N2 N3 _ M11.out l1 l2 l3).mono ?_
  rintro r w12 ⟨rfl, b12⟩
  have B12 := Hid.mk (below_then B11.out b12)
  have D12 := Hid.mk (below_then D11.out b12)
  have X12 := Hid.mk (blk_below X11.out b12)
  have z12 := b12.size
  clear b12 M11 B11 D11 X11 Y11
  have kneg : decide ((1 : Int) + 7 * (N1 : Int) + 12 * (N2 : Int) + 3 * (N3 : Int) < 0) = false := by simp; omega
  go_wp2_with fail
  refine (toByteS a t n c _ HN.out (HR.out.below B12.out) hl).mono ?_
  rintro r w13 ⟨rfl, b13, -, r13, z13⟩
  have B13 := Hid.mk (below_then B12.out b13)
  have D13 := Hid.mk (below_then D12.out b13)
  have X13 := Hid.mk (blk_below X12.out b13)
  have R13 := Hid.mk r13
  clear b13 r13 B12 D12 X12
  go_wp2_with fail
  refine (CI.out _ n n _ HN.out (Nat.le_refl _) R13.out hl (cell_keep B13.out HG.out)).mono ?_
  rintro r w14 ⟨v1, v2, v3, rfl, hA14, b14⟩
  obtain ⟨y1, y2, y3, s1, s2, s3, rfl, rfl, rfl, hI14⟩ := SH.out _ _ _ _ _ hA14
  have I14 := Hid.mk hI14
  have B14 := Hid.mk (below_then B13.out b14)
  have D14 := Hid.mk (below_then D13.out b14)
  have X14 := Hid.mk (blk_below X13.out b14)
  clear hA14 hI14 b14 R13 B13 D13 X13
  have hq : ∀ o, (w14.alloc o).cell? ⟨w2.heap.size, 0, none⟩ = some (.int .i64 e) ∧ (w14.alloc o).cell? ⟨w2.heap.size, 1, none⟩ = some (.int .i64 l) ∧ (w14.alloc o).cell? ⟨w2.heap.size, 2, none⟩ = some (.slice p1 N1 k1) ∧ (w14.alloc o).cell? ⟨w2.heap.size, 3, none⟩ = some (.slice p2 N2 k2) ∧ (w14.alloc o).cell? ⟨w2.heap.size, 4, none⟩ = some (.slice p3 N3 k3) := fun o => ⟨(blk_cell (blk_alloc X14.out o) 0).trans rfl, (blk_cell (blk_alloc X14.out o) 1).trans rfl, (blk_cell (blk_alloc X14.out o) 2).trans rfl, (blk_cell (blk_alloc X14.out o) 3).trans rfl, (blk_cell (blk_alloc X14.out o) 4).trans rfl⟩
  have hq0 := fun o => (hq o).1
  have hq1 := fun o => (hq o).2.1
  have hq2 := fun o => (hq o).2.2.1
  have hq3 := fun o => (hq o).2.2.2.1
  have hq4 := fun o => (hq o).2.2.2.2
  clear hq
  go_wp2_with fail
  clear hq0 hq1 hq2 hq3 hq4
  have d15 := below_alloc' (Below.refl w14.heap.size w14) (.cells #[.int .i64 e, .int .i64 l, .slice y1 N1 s1, .slice y2 N2 s2, .slice y3 N3 s3] 29)
  refine (CE.out _ _ _ _ _ _ _ _ _ _ _ _ _ (I14.out.below d15) (I2.out.below (below_then D14.out d15))).mono ?_
  rintro r w16 ⟨rfl, b16⟩
  have B16 := Hid.mk (below_then (below_then B14.out d15) b16)
  clear b16 d15
  go_wp2
  go_ret
  exact ⟨rfl, B16.out⟩
end Go.Proofs.YtdhnjkcebaahcaaGreatDoor.Parse
