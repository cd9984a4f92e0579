import Derived.Test.YtdhnjkcebaahcaaDoorDecU
namespace Go.Proofs.YtdhnjkcebaahcaaDoor.Dec
open Go Go.RowKit Go.Proofs.YtdhnjkcebaahcaaDoor.Mem Go.Proofs.YtdhnjkcebaahcaaDoor.ValC Go.Proofs.YtdhnjkcebaahcaaDoor.Enc
set_option linter.unusedVariables false
set_option linter.unusedSimpArgs false
attribute [local go_sem ↓] Go.wp_at_zero Go.wp_at_succ

theorem slice_same {w w' : World} {s : Option Addr} {n m k : Nat} {C : Nat → List Value} (h : SliceAt w s n k C) (hg : ∀ x, (Value.slice s n m).ownBlock = some x → w'.heap[x]? = w.heap[x]?) : SliceAt w' s n k C := by
  rcases h with h | ⟨b, off, rfl, h⟩
  · exact Or.inl h
  · refine Or.inr ⟨b, off, rfl, fun i hi j u hu => ?_⟩
    rw [World.cell?_of_block (a := ⟨b, off + i * k + j, none⟩) (hg b rfl)]
    exact h i hi j u hu
theorem co_same {w w' : World} {s1 s2 s3 : Option Addr} {m1 m2 m3 : Nat} {d : Dc} (h : CoAt w s1 s2 s3 d.co) (h1 : ∀ x, (Value.slice s1 d.L1.length m1).ownBlock = some x → w'.heap[x]? = w.heap[x]?) (h2 : ∀ x, (Value.slice s2 d.L2.length m2).ownBlock = some x → w'.heap[x]? = w.heap[x]?) (h3 : ∀ x, (Value.slice s3 d.L3.length m3).ownBlock = some x → w'.heap[x]? = w.heap[x]?) : CoAt w' s1 s2 s3 d.co :=
  ⟨slice_same (m := m1) h.b1 h1, slice_same (m := m2) h.b2 h2, slice_same (m := m3) h.b3 h3⟩

set_option maxHeartbeats 8000000 in
set_option maxRecDepth 1000000 in
theorem law (a : Option Addr) (bs : List UInt8) (n c : Nat) (w : World) (hn : n = bs.length) (hr : RdB w a bs) (hT : TabC w) :
    Calls Tryd.prog 6 #[.slice a n c] w fun e w' => e = .returned (.bool true) ∧ Below w.heap.size w w' := by
  have HN := Hid.mk hn
  have HR := Hid.mk hr
  have HT := Hid.mk hT
  clear hn hr hT
  by_cases hbig : 1048576 < n
  · have hb' : (1048576 : Int) < (n : Int) := by omega
    go_enter Tryd.func6, Tryd.ntmps6
    go_wp2
    go_ret
    exact ⟨rfl, Below.refl _ _⟩
  have hb' : decide ((1048576 : Int) < (n : Int)) = false := by simp; omega
  have hl : n ≤ 1048576 := by omega
  have HL := Hid.mk (decA_len bs)
  have CS : Hid (∀ a n c w, n = bs.length → RdB w a bs → n ≤ 1048576 → Calls Tryd.prog 24 #[.slice a n c] w fun r w' => ∃ s1 s2 s3 m1 m2 m3, r = .returned (.agg #[.int .i64 (decA bs).R, .int .i64 (decA bs).S, .slice s1 (decA bs).L1.length m1, .slice s2 (decA bs).L2.length m2, .slice s3 (decA bs).L3.length m3]) ∧ OD w.heap.size w' s1 s2 s3 m1 m2 m3 (decA bs) ∧ Below w.heap.size w w') := fun a n c w h1 h2 h3 => (decodeS bs n a c w h1 h2 h3).mono (fun e w' h => decP_od h)
  have CI : Hid (∀ a n c w, n = bs.length → RdB w a bs → n ≤ c → n ≤ 1048576 → (∀ p, a = some p → p.block < w.heap.size) → TabC w → Calls Tryd.prog 26 #[.slice a n c] w fun r w' => ∃ s1 s2 s3 m1 m2 m3, r = .returned (.agg #[.int .i64 (decA bs).R, .int .i64 (decA bs).S, .slice s1 (decA bs).L1.length m1, .slice s2 (decA bs).L2.length m2, .slice s3 (decA bs).L3.length m3]) ∧ OD w.heap.size w' s1 s2 s3 m1 m2 m3 (decA bs) ∧ Below w.heap.size w w') := fun a n c w h1 h2 h3 h4 h5 h6 => (decodeI bs n a c w h1 h2 h3 h4 h5 h6).mono (fun e w' h => decP_od h)
  obtain ⟨d, hd⟩ : ∃ d, d = decA bs := ⟨_, rfl⟩
  rw [← hd] at CS CI HL
  clear hd
  have CE : Hid (∀ a1 a2 a3 b1 b2 b3 c1 c2 c3 d1 d2 d3 w, CoAt w a1 a2 a3 d.co → CoAt w b1 b2 b3 d.co → Calls Tryd.prog 20 #[.agg #[.int .i64 d.R, .int .i64 d.S, .slice a1 d.L1.length c1, .slice a2 d.L2.length c2, .slice a3 d.L3.length c3], .agg #[.int .i64 d.R, .int .i64 d.S, .slice b1 d.L1.length d1, .slice b2 d.L2.length d2, .slice b3 d.L3.length d3]] w fun e w' => e = .returned (.bool true) ∧ Below w.heap.size w w') := fun a1 a2 a3 b1 b2 b3 c1 c2 c3 d1 d2 d3 w h1 h2 => Eq.eqCode a1 a2 a3 b1 b2 b3 c1 c2 c3 d1 d2 d3 d.co w h1 h2 (Nat.le_trans HL.out.1 (by omega)) (Nat.le_trans HL.out.2.1 (by omega)) (Nat.le_trans HL.out.2.2 (by omega))
  go_enter Tryd.func6, Tryd.ntmps6
  go_wp2_with fail
  refine (toByteS a bs n c _ HN.out HR.out hl).mono ?_
  rintro r w1 ⟨rfl, b1, -, r1, z1⟩
  have B1 := Hid.mk b1
  have R1 := Hid.mk r1
  clear b1 r1
  go_wp2_with fail
  refine (CS.out _ n n _ HN.out R1.out hl).mono ?_
  rintro r w2 ⟨p1, p2, p3, k1, k2, k3, rfl, o2, b2⟩
  have B2 := Hid.mk (below_then B1.out b2)
  have C2 := Hid.mk o2.co
  have QP := Hid.mk (And.intro (fun x hx => (o2.q1 x hx).2) (And.intro (fun x hx => (o2.q2 x hx).2) (fun x hx => (o2.q3 x hx).2)))
  have zB := B2.out.size
  clear o2 b2 R1 B1
  go_upto_region 4 with fail
  obtain ⟨W2, hW2⟩ : ∃ W2, W2 = w2.alloc (.cells #[.int .i64 d.R, .int .i64 d.S, .slice p1 d.L1.length k1, .slice p2 d.L2.length k2, .slice p3 d.L3.length k3] 48) := ⟨_, rfl⟩
  rw [← hW2]
  have X2 : Hid (W2.heap[w2.heap.size]? = some (.cells #[.int .i64 d.R, .int .i64 d.S, .slice p1 d.L1.length k1, .slice p2 d.L2.length k2, .slice p3 d.L3.length k3] 48)) := by rw [hW2]; exact blk_new _ _
  have d2 : Below w2.heap.size w2 W2 := by rw [hW2]; exact below_alloc' (Below.refl _ _) _
  have z2 : w2.heap.size < W2.heap.size := by rw [hW2]; simp
  clear hW2
  have B2' := Hid.mk (below_then B2.out d2)
  have C2' := Hid.mk (C2.out.below d2)
  clear d2 B2 C2
  go_wp2_with fail
  refine (toByteS a bs n c _ HN.out (HR.out.below B2'.out) hl).mono ?_
  rintro r w3 ⟨rfl, b3, t3, r3, z3⟩
  have B3 := Hid.mk (below_then B2'.out b3)
  have C3 := Hid.mk (C2'.out.below b3)
  have X3 := Hid.mk (blk_below X2.out b3)
  have T3 := Hid.mk t3
  have R3 := Hid.mk r3
  clear b3 t3 r3 B2' C2' X2
  go_wp2_with fail
  refine (CI.out _ n n _ HN.out R3.out (Nat.le_refl _) hl (fun p hp => by injection hp with hp; rw [← hp]; exact z3) (HT.out.below B3.out)).mono ?_
  rintro r w4 ⟨g1, g2, g3, h1, h2, h3, rfl, o4, b4⟩
  have B4 := Hid.mk (below_then B3.out b4)
  have C4 := Hid.mk (C3.out.below b4)
  have X4 := Hid.mk (blk_below X3.out b4)
  have T4 := Hid.mk (there_below T3.out z3 b4)
  have R4 := Hid.mk (R3.out.below b4)
  have O4 := Hid.mk o4
  have QG := Hid.mk (And.intro o4.q1 (And.intro o4.q2 o4.q3))
  have z4 := b4.size
  clear b4 o4 B3 C3 X3 T3 R3
  go_upto_region 6 with fail
  obtain ⟨W4, hW4⟩ : ∃ W4, W4 = w4.alloc (.cells #[.int .i64 d.R, .int .i64 d.S, .slice g1 d.L1.length h1, .slice g2 d.L2.length h2, .slice g3 d.L3.length h3] 48) := ⟨_, rfl⟩
  rw [← hW4]
  have Y4 : Hid (W4.heap[w4.heap.size]? = some (.cells #[.int .i64 d.R, .int .i64 d.S, .slice g1 d.L1.length h1, .slice g2 d.L2.length h2, .slice g3 d.L3.length h3] 48)) := by rw [hW4]; exact blk_new _ _
  have d4 : Below w4.heap.size w4 W4 := by rw [hW4]; exact below_alloc' (Below.refl _ _) _
  have z5 : w4.heap.size < W4.heap.size := by rw [hW4]; simp
  clear hW4
  have B5 := Hid.mk (below_then B4.out d4)
  have C5 := Hid.mk (C4.out.below d4)
  have X5 := Hid.mk (blk_below X4.out d4)
  have T5 := Hid.mk (there_below T4.out (by omega) d4)
  have R5 := Hid.mk (R4.out.below d4)
  have O5 := Hid.mk (O4.out.below d4)
  clear d4 B4 C4 X4 T4 R4 O4
  have x0 := blk_cell X5.out 0
  have x1 := blk_cell X5.out 1
  have x2 := blk_cell X5.out 2
  have x3 := blk_cell X5.out 3
  have x4 := blk_cell X5.out 4
  have y0 := blk_cell Y4.out 0
  have y1 := blk_cell Y4.out 1
  have y2 := blk_cell Y4.out 2
  have y3 := blk_cell Y4.out 3
  have y4 := blk_cell Y4.out 4
  simp only [List.getElem?_toArray, List.getElem?_cons_zero, List.getElem?_cons_succ] at x0 x1 x2 x3 x4 y0 y1 y2 y3 y4
  go_wp2_with fail
  clear x0 x1 x2 x3 x4 y0 y1 y2 y3 y4
  refine (CE.out _ _ _ _ _ _ _ _ _ _ _ _ _ O5.out.co C5.out).mono ?_
  rintro r w5 ⟨rfl, b5⟩
  have B6 := Hid.mk (below_then B5.out b5)
  have C6 := Hid.mk (C5.out.below b5)
  have X6 := Hid.mk (blk_below X5.out b5)
  have Y6 := Hid.mk (blk_below Y4.out b5)
  have T6 := Hid.mk (there_below T5.out (by omega) b5)
  have R6 := Hid.mk (R5.out.below b5)
  have O6 := Hid.mk (O5.out.below b5)
  have z6 := b5.size
  clear b5 B5 C5 X5 Y4 T5 R5 O5
  go_wp2_with fail
  refine (toByteS a bs n c _ HN.out (HR.out.below B6.out) hl).mono ?_
  rintro r w6 ⟨rfl, b6, t6, r6, z7⟩
  have B7 := Hid.mk (below_then B6.out b6)
  have C7 := Hid.mk (C6.out.below b6)
  have X7 := Hid.mk (blk_below X6.out b6)
  have Y7 := Hid.mk (blk_below Y6.out b6)
  have T7 := Hid.mk (there_below T6.out (by omega) b6)
  have R7 := Hid.mk (R6.out.below b6)
  have O7 := Hid.mk (O6.out.below b6)
  have AT := Hid.mk (at_of HN.out t6 r6 (Nat.le_refl _) z7)
  have AX := Hid.mk (at_of (hi := w5.heap.size) HN.out T7.out R7.out (Nat.le_refl _) (by omega))
  clear b6 t6 r6 B6 C6 X6 Y6 T6 R6 O6
  go_wp2_with fail
  refine (MarksC.eqByteS _ _ _ _ _ _ bs n _ _ _ HN.out AX.out AT.out (by omega)).mono ?_
  rintro r w7 ⟨rfl, b7⟩
  have B8 := Hid.mk (below_then B7.out b7)
  have C8 := Hid.mk (C7.out.below b7)
  have X8 := Hid.mk (blk_below X7.out b7)
  have Y8 := Hid.mk (blk_below Y7.out b7)
  have T8 := Hid.mk (there_below T7.out (by omega) b7)
  have O8 := Hid.mk (O7.out.below b7)
  have z8 := b7.size
  clear b7 B7 C7 X7 Y7 T7 R7 O7 AT AX
  go_wp2_with fail
  refine (markBytesP _ n _ 1 _ T8.out hl (by omega) (by omega)).mono ?_
  rintro r w8 ⟨rfl, gw⟩
  have B9 : Hid (Below w.heap.size w w8) := B8.out.trans (gb_low gw (by omega) (fun x e => by injection e with e; omega))
  have C9 : Hid (CoAt w8 p1 p2 p3 d.co) := co_same (m1 := k1) (m2 := k2) (m3 := k3) C8.out (fun x hx => gw.block x (by have := QP.out.1 x hx; omega) (by intro e; injection e with e; have := QP.out.1 x hx; omega)) (fun x hx => gw.block x (by have := QP.out.2.1 x hx; omega) (by intro e; injection e with e; have := QP.out.2.1 x hx; omega)) (fun x hx => gw.block x (by have := QP.out.2.2 x hx; omega) (by intro e; injection e with e; have := QP.out.2.2 x hx; omega))
  have X9 := Hid.mk (blk_gb X8.out gw (by omega))
  have Y9 := Hid.mk (blk_gb Y8.out gw (by omega))
  have O9 := Hid.mk (O8.out.gb gw z3)
  have z9 := gw.size
  clear gw B8 C8 X8 Y8 T8 O8
  have kk : decide ((1 : Int) + (n : Int) < 0) = false := by simp; omega
  have x0 := blk_cell X9.out 0
  have x1 := blk_cell X9.out 1
  have x2 := blk_cell X9.out 2
  have x3 := blk_cell X9.out 3
  have x4 := blk_cell X9.out 4
  have y0 := blk_cell Y9.out 0
  have y1 := blk_cell Y9.out 1
  have y2 := blk_cell Y9.out 2
  have y3 := blk_cell Y9.out 3
  have y4 := blk_cell Y9.out 4
  simp only [List.getElem?_toArray, List.getElem?_cons_zero, List.getElem?_cons_succ] at x0 x1 x2 x3 x4 y0 y1 y2 y3 y4
  go_wp2_with fail
  clear x0 x1 x2 x3 x4 y0 y1 y2 y3 y4
  refine (CE.out _ _ _ _ _ _ _ _ _ _ _ _ _ O9.out.co C9.out).mono ?_
  rintro r w9 ⟨rfl, b9⟩
  have B10 := Hid.mk (below_then B9.out b9)
  have C10 := Hid.mk (C9.out.below b9)
  have X10 := Hid.mk (blk_below X9.out b9)
  have Y10 := Hid.mk (blk_below Y9.out b9)
  have O10 := Hid.mk (O9.out.below b9)
  have z10 := b9.size
  clear b9 B9 C9 X9 Y9 O9
  have y0 := blk_cell Y10.out 0
  have y1 := blk_cell Y10.out 1
  have y2 := blk_cell Y10.out 2
  have y3 := blk_cell Y10.out 3
  have y4 := blk_cell Y10.out 4
  simp only [List.getElem?_toArray, List.getElem?_cons_zero, List.getElem?_cons_succ] at y0 y1 y2 y3 y4
  go_wp2_with fail
  clear y0 y1 y2 y3 y4
  refine (markCodeP w3.heap.size g1 g2 g3 h1 h2 h3 d.L1.length d.L2.length d.L3.length d.R d.S _ O10.out.r1 O10.out.r2 O10.out.r3 O10.out.ap HL.out.1 HL.out.2.1 HL.out.2.2 O10.out.q1 O10.out.q2 O10.out.q3 (by omega)).mono ?_
  rintro r w10 ⟨rfl, m1, m2, m3, b10, s10⟩
  have B11 : Hid (Below w.heap.size w w10) := B10.out.trans (b10.mono (by omega))
  have NE : Hid (∀ x, x < w3.heap.size ∨ w4.heap.size ≤ x → (Value.slice g1 d.L1.length h1).ownBlock ≠ some x ∧ (Value.slice g2 d.L2.length h2).ownBlock ≠ some x ∧ (Value.slice g3 d.L3.length h3).ownBlock ≠ some x) := fun x hx => ⟨fun e => by have := QG.out.1 x e; omega, fun e => by have := QG.out.2.1 x e; omega, fun e => by have := QG.out.2.2 x e; omega⟩
  have SM : Hid (∀ x, x < w9.heap.size → (x < w3.heap.size ∨ w4.heap.size ≤ x) → w10.heap[x]? = w9.heap[x]?) := fun x hx hy => s10 x hx (NE.out x hy).1 (NE.out x hy).2.1 (NE.out x hy).2.2
  have C11 : Hid (CoAt w10 p1 p2 p3 d.co) := co_same (m1 := k1) (m2 := k2) (m3 := k3) C10.out (fun x hx => SM.out x (by have := QP.out.1 x hx; omega) (by have := QP.out.1 x hx; omega)) (fun x hx => SM.out x (by have := QP.out.2.1 x hx; omega) (by have := QP.out.2.1 x hx; omega)) (fun x hx => SM.out x (by have := QP.out.2.2 x hx; omega) (by have := QP.out.2.2 x hx; omega))
  have X11 := Hid.mk ((SM.out w2.heap.size (by omega) (by omega)).trans X10.out)
  have Y11 := Hid.mk ((SM.out w4.heap.size (by omega) (by omega)).trans Y10.out)
  have M1 := Hid.mk m1
  have M2 := Hid.mk m2
  have M3 := Hid.mk m3
  have z11 := b10.size
  clear m1 m2 m3 b10 s10 SM NE B10 C10 X10 Y10 O10
  have y0 := blk_cell Y11.out 0
  have y1 := blk_cell Y11.out 1
  have y2 := blk_cell Y11.out 2
  have y3 := blk_cell Y11.out 3
  have y4 := blk_cell Y11.out 4
  simp only [List.getElem?_toArray, List.getElem?_cons_zero, List.getElem?_cons_succ] at y0 y1 y2 y3 y4
  go_wp2_with fail
  clear y0 y1 y2 y3 y4
  refine (heldCodeP g1 g2 g3 h1 h2 h3 d.L1.length d.L2.length d.L3.length d.R d.S _ M1.out M2.out M3.out HL.out.1 HL.out.2.1 HL.out.2.2).mono ?_
  rintro r w11 ⟨rfl, b11⟩
  have B12 := Hid.mk (below_then B11.out b11)
  have C12 := Hid.mk (C11.out.below b11)
  have X12 := Hid.mk (blk_below X11.out b11)
  clear b11 B11 C11 X11 Y11 M1 M2 M3
  have tt : decide ((1 : Int) + 4 * (d.L1.length : Int) + 4 * (d.L2.length : Int) + 4 * (d.L3.length : Int) < 0) = false := by simp; omega
  go_wp2_with fail
  refine (toByteS a bs n c _ HN.out (HR.out.below B12.out) hl).mono ?_
  rintro r w12 ⟨rfl, b12, -, r12, z12⟩
  have B13 := Hid.mk (below_then B12.out b12)
  have C13 := Hid.mk (C12.out.below b12)
  have X13 := Hid.mk (blk_below X12.out b12)
  have R13 := Hid.mk r12
  clear b12 r12 B12 C12 X12
  go_wp2_with fail
  refine (CI.out _ n n _ HN.out R13.out (Nat.le_refl _) hl (fun p hp => by injection hp with hp; rw [← hp]; exact z12) (HT.out.below B13.out)).mono ?_
  rintro r w13 ⟨j1, j2, j3, i1, i2, i3, rfl, o13, b13⟩
  have B14 := Hid.mk (below_then B13.out b13)
  have C14 := Hid.mk (C13.out.below b13)
  have X14 := Hid.mk (blk_below X13.out b13)
  have O14 := Hid.mk o13
  clear b13 o13 B13 C13 X13 R13
  go_upto_region 23 with fail
  obtain ⟨W13, hW13⟩ : ∃ W13, W13 = w13.alloc (.cells #[.int .i64 d.R, .int .i64 d.S, .slice j1 d.L1.length i1, .slice j2 d.L2.length i2, .slice j3 d.L3.length i3] 48) := ⟨_, rfl⟩
  rw [← hW13]
  have Z13 : Hid (W13.heap[w13.heap.size]? = some (.cells #[.int .i64 d.R, .int .i64 d.S, .slice j1 d.L1.length i1, .slice j2 d.L2.length i2, .slice j3 d.L3.length i3] 48)) := by rw [hW13]; exact blk_new _ _
  have d13 : Below w13.heap.size w13 W13 := by rw [hW13]; exact below_alloc' (Below.refl _ _) _
  clear hW13
  have B15 := Hid.mk (below_then B14.out d13)
  have C15 := Hid.mk (C14.out.below d13)
  have X15 := Hid.mk (blk_below X14.out d13)
  have O15 := Hid.mk (O14.out.below d13)
  clear d13 B14 C14 X14 O14
  have x0 := blk_cell X15.out 0
  have x1 := blk_cell X15.out 1
  have x2 := blk_cell X15.out 2
  have x3 := blk_cell X15.out 3
  have x4 := blk_cell X15.out 4
  have y0 := blk_cell Z13.out 0
  have y1 := blk_cell Z13.out 1
  have y2 := blk_cell Z13.out 2
  have y3 := blk_cell Z13.out 3
  have y4 := blk_cell Z13.out 4
  simp only [List.getElem?_toArray, List.getElem?_cons_zero, List.getElem?_cons_succ] at x0 x1 x2 x3 x4 y0 y1 y2 y3 y4
  go_wp2_with fail
  clear x0 x1 x2 x3 x4 y0 y1 y2 y3 y4
  refine (CE.out _ _ _ _ _ _ _ _ _ _ _ _ _ O15.out.co C15.out).mono ?_
  rintro r w14 ⟨rfl, b14⟩
  have B16 := Hid.mk (below_then B15.out b14)
  clear b14 B15 C15 X15 O15 Z13
  go_wp2
  go_ret
  exact ⟨rfl, B16.out⟩
end Go.Proofs.YtdhnjkcebaahcaaDoor.Dec
