import Derived.Test.YtefkdpppcjlflaaGreatDoorIt36
import Derived.Lib.QuietBelow
namespace Go.Proofs.YtefkdpppcjlflaaGreatDoor.Parse
open Go Go.RowKit Go.Sort Go.Proofs.YtefkdpppcjlflaaGreatDoor.Mem Go.Proofs.YtefkdpppcjlflaaGreatDoor.Valid
set_option linter.unusedVariables false
set_option linter.unusedSimpArgs false
attribute [local go_sem ↓] Go.wp_at_zero Go.wp_at_succ

def rdR (bs : List UInt8) : Mem.Rd := ⟨numV (fN bs 0), numV (fN bs 1), numV (fN bs 2)⟩
def badR (bs : List UInt8) : Bool := ((false || !isNum (fN bs 0)) || !isNum (fN bs 1)) || !isNum (fN bs 2)
def codeR (bs : List UInt8) (s : Acc) : Int := if badR bs then 6 else (addR s (rdR bs)).1

set_option maxHeartbeats 4000000 in
set_option maxRecDepth 1000000 in
theorem addRI (B r g : Nat) (bs : List UInt8) (w : World) (v1 v2 v3 : Value) (s : Acc) (k : Int) (hB : B ≤ g) (hBr : B ≤ r) (hBs : B ≤ w.heap.size) (hne : r ≠ g) (h : Cur B g w bs false) (hr : Rdr B r w v1 v2 v3 s k) (hl : bs.length ≤ 1000000) (hs1 : s.V.length ≤ 64) (hs2 : s.Q.length ≤ 1000) (hs3 : s.R.length ≤ 4000) :
    Calls Tryz.prog 57 #[.pointer (some ⟨r, 0, none⟩), .pointer (some ⟨g, 0, none⟩)] w fun e w' => e = .returned (evC (codeR bs s)) ∧ (codeR bs s = 0 → ∃ u, Rdr B r w' v1 v2 u (addR s (rdR bs)).2 k) ∧ Below B w w' := by
  have HCur := Hid.mk h
  have HRd := Hid.mk hr
  obtain ⟨bd, hbd⟩ : ∃ bd, bd = badR bs := ⟨_, rfl⟩
  have HC0 := Hid.mk (Parse.roadI B g bs false w hB hBs h hl)
  obtain ⟨v, hv⟩ : ∃ v, v = rdR bs := ⟨_, rfl⟩
  have HC : Hid (Calls Tryz.prog 72 #[.pointer (some ⟨g, 0, none⟩)] w fun e w' => e = .returned (.agg #[.int .i64 v.a, .int .i64 v.b, .int .i64 v.t]) ∧ Cur B g w' (nxt 3 bs) bd ∧ w.grownBy w' (some g)) := by
    unfold Hid; rw [hv, hbd]; exact HC0.out
  have HV := Hid.mk hv
  have hcode : Hid (codeR bs s = if bd then 6 else (addR s v).1) := by unfold Hid codeR; rw [hbd, hv]
  clear h hr HC0 hbd
  rw [← hv]
  clear hv
  obtain ⟨a1, c1, hv1, hc1⟩ := row_shape HRd.out.acc.v
  obtain ⟨a2, c2, hv2, hc2⟩ := row_shape HRd.out.acc.q
  obtain ⟨a3, c3, hv3, hc3⟩ := row_shape HRd.out.acc.r
  subst hv1 hv2 hv3
  obtain ⟨N1, hN1⟩ : ∃ N, N = s.V.length := ⟨_, rfl⟩
  obtain ⟨N2, hN2⟩ : ∃ N, N = s.Q.length := ⟨_, rfl⟩
  obtain ⟨N, hN⟩ : ∃ N, N = s.R.length := ⟨_, rfl⟩
  have HN1 := Hid.mk hN1
  have HN2 := Hid.mk hN2
  have HN := Hid.mk hN
  rw [← hN1] at hs1 HRd hc1 ⊢
  rw [← hN2] at hs2 HRd hc2 ⊢
  rw [← hN] at hs3 HRd hc3
  clear hN1 hN2 hN
  cases bd with
  | true =>
    have HE : Hid (codeR bs s = 6) := by unfold Hid; rw [hcode.out]; rfl
    go_enter Tryz.func57, Tryz.ntmps57
    go_wp2_with (go_at_call 72; refine HC.out.mono ?_; rintro e w1 ⟨rfl, c1, g1⟩; have x1 : ∀ o, (w1.alloc o).cell? ⟨g, 1, none⟩ = some (.iface 64 (.agg #[.int .i64 6])) := (by intro o; obtain ⟨u, hx, -⟩ := c1; rw [blk_cell (blk_alloc hx o) 1]; rfl); have B1 : Hid (Below B w w1) := gr_below g1 hB hBs; have R1 := Hid.mk (HRd.out.grown HCur.out g1 hne); have u2 : ∀ o, (w1.alloc o).cell? ⟨r, 2, none⟩ = some (.slice a3 N c3) := (by intro o; rw [blk_cell (blk_alloc R1.out.blk o) 2]; rfl); clear c1 g1)
    go_ret
    rw [HE.out]
    exact ⟨rfl, fun h => by omega, B1.out.alloc (Nat.le_trans hBs B1.out.size) _⟩
  | false =>
    have HE : Hid (codeR bs s = (addR s v).1) := hcode
    obtain ⟨M, hM⟩ : ∃ M : Int, M = (N1 : Int) + 2 * (N2 : Int) := ⟨_, rfl⟩
    have hM0 : 0 ≤ M := by omega
    have hM1 : M ≤ 4000000000 := by omega
    have HM : Hid (nodesA s = M) := by unfold Hid nodesA; rw [← HN1.out, ← HN2.out, hM]
    have CN : Hid (∀ W, Calls Tryz.prog 36 #[.agg #[.slice a1 N1 c1, .slice a2 N2 c2, .slice a3 N c3]] W fun e w' => e = .returned (.int .i64 M) ∧ Below W.heap.size W w') := fun W => by
      have := nodesI a1 a2 a3 c1 c2 c3 ⟨N1, N2, N, fun _ => ⟨0, 0, 0, 0, 0, 0, 0⟩, fun _ => ⟨0, 0, 0, 0, 0, 0, 0, 0, 0, 0, 0, 0⟩, fun _ => ⟨0, 0, 0⟩⟩ W (by show N1 ≤ _; omega) (by show N2 ≤ _; omega)
      rw [hM]; exact this
    clear hM
    cases hgv : gRoad v.a v.b v.t M with
    | false =>
      have HA : Hid ((addR s v).1 = 7) := by unfold Hid addR; rw [HM.out, hgv]; rfl
      have HG := Hid.mk hgv
      clear hgv
      go_enter Tryz.func57, Tryz.ntmps57
      go_wp2_with (go_at_call 72; refine HC.out.mono ?_; rintro e w1 ⟨rfl, c1, g1⟩; have x1 : ∀ o, (w1.alloc o).cell? ⟨g, 1, none⟩ = some (.nilIface) := (by intro o; obtain ⟨u, hx, -⟩ := c1; rw [blk_cell (blk_alloc hx o) 1]; rfl); have B1 : Hid (Below B w w1) := gr_below g1 hB hBs; have R1 := Hid.mk (HRd.out.grown HCur.out g1 hne); have u2 : ∀ o, (w1.alloc o).cell? ⟨r, 2, none⟩ = some (.slice a3 N c3) := (by intro o; rw [blk_cell (blk_alloc R1.out.blk o) 2]; rfl); clear c1 g1)
      obtain ⟨W, hW⟩ : ∃ W, W = w1.alloc (.cells #[.int .i64 v.a, .int .i64 v.b, .int .i64 v.t] 51) := ⟨_, rfl⟩
      rw [← hW]
      have HW1 : Hid (Below w1.heap.size w1 W) := by rw [hW]; exact below_alloc' (Below.refl _ _) _
      have HWb : Hid (W.heap[w1.heap.size]? = some (.cells #[.int .i64 v.a, .int .i64 v.b, .int .i64 v.t] 51)) := by rw [hW]; exact blk_new _ _
      have RW := Hid.mk (R1.out.below HW1.out)
      have BW : Hid (Below B w W) := B1.out.trans (HW1.out.mono (Nat.le_trans hBs B1.out.size))
      clear hW x1 u2
      have p0 := cell_regrown ((blk_cell HWb.out 0).trans (show _ = some (.int .i64 v.a) from rfl))
      have p1 := cell_regrown ((blk_cell HWb.out 1).trans (show _ = some (.int .i64 v.b) from rfl))
      have p2 := cell_regrown ((blk_cell HWb.out 2).trans (show _ = some (.int .i64 v.t) from rfl))
      have s0 := cell_regrown ((blk_cell RW.out.blk 0).trans (show _ = some (.slice a1 N1 c1) from rfl))
      have s1 := cell_regrown ((blk_cell RW.out.blk 1).trans (show _ = some (.slice a2 N2 c2) from rfl))
      have s2 := cell_regrown ((blk_cell RW.out.blk 2).trans (show _ = some (.slice a3 N c3) from rfl))
      have cN : ∀ d os, Calls Tryz.prog 36 #[.agg #[.slice a1 N1 c1, .slice a2 N2 c2, .slice a3 N c3]] (grow (redrawn W d) os) fun e w'' => e = .returned (.int .i64 M) ∧ ∃ p : Regrown, w'' = grow (redrawn W p.d) p.os := fun d os => Calls.regrown_of (CN.out _)
      have cV : ∀ d os, Calls Tryz.prog 48 #[.agg #[.int .i64 v.a, .int .i64 v.b, .int .i64 v.t], .int .i64 M] (grow (redrawn W d) os) fun e w'' => e = .returned (.bool false) ∧ ∃ p : Regrown, w'' = grow (redrawn W p.d) p.os := fun d os => Calls.regrown_of (by have := Valid.roadI v.a v.b v.t M (grow (redrawn W d) os) hM0 hM1; rw [HG.out] at this; exact this)
      refine wp_region_quiet_below (by kernel_rfl) (by kernel_rfl) ?_
      repeat (first | go_big_quiet_step (first | exact cN _ _ | exact cV _ _) | quiet_step (first | exact cN _ _ | exact cV _ _))
      refine wpQuiet_nil ?_
      intro _ hw'
      obtain ⟨⟨dq, osq⟩, hw''⟩ := hw'
      subst hw''
      clear p0 p1 p2 s0 s1 s2 cN cV
      obtain ⟨W5, hW5⟩ : ∃ W5, W5 = grow (redrawn W dq) osq := ⟨_, rfl⟩
      rw [← hW5]
      have b5 : Hid (Below W.heap.size W W5) := by rw [hW5]; exact below_regrown _ dq osq
      have B5 : Hid (Below B w W5) := BW.out.trans (b5.out.mono (Nat.le_trans hBs BW.out.size))
      have R5 := Hid.mk (RW.out.below b5.out)
      have V5 := Hid.mk (blk_below HWb.out b5.out)
      have X5 : Hid (Below w1.heap.size w1 W5) := below_then HW1.out b5.out
      clear hW5
      go_wp2
      go_ret
      rw [HE.out, HA.out]
      exact ⟨rfl, fun h => by omega, B5.out⟩
    | true =>
      have HG := Hid.mk hgv
      cases N with
      | zero =>
        have hRn : s.R = [] := List.eq_nil_of_length_eq_zero HN.out.symm
        have HA : Hid ((addR s v).1 = 0 ∧ (addR s v).2 = { s with R := s.R ++ [v] }) := by unfold Hid addR lastBefore; rw [HM.out, hgv, hRn]; exact ⟨rfl, rfl⟩
        clear hgv hRn
        obtain ⟨N, hN0⟩ : ∃ N, N = 0 := ⟨0, rfl⟩
        have HN0 := Hid.mk hN0
        rw [← hN0] at HN HRd CN hc3
        have n0 : ((N : Int) == 4000) = false := by simp; omega
        have n1 : decide ((0 : Int) < (N : Int)) = false := by simp; omega
        have n1n : ¬ 0 < N := by omega
        have hN4 : N ≤ 4000 := by omega
        clear hs3 hN0
        obtain ⟨i0, hi, hz0, hz1, hz2⟩ := info_parts info3
        go_enter Tryz.func57, Tryz.ntmps57
        go_wp2_with (go_at_call 72; refine HC.out.mono ?_; rintro e w1 ⟨rfl, c1, g1⟩; have x1 : ∀ o, (w1.alloc o).cell? ⟨g, 1, none⟩ = some (.nilIface) := (by intro o; obtain ⟨u, hx, -⟩ := c1; rw [blk_cell (blk_alloc hx o) 1]; rfl); have B1 : Hid (Below B w w1) := gr_below g1 hB hBs; have R1 := Hid.mk (HRd.out.grown HCur.out g1 hne); have u2 : ∀ o, (w1.alloc o).cell? ⟨r, 2, none⟩ = some (.slice a3 N c3) := (by intro o; rw [blk_cell (blk_alloc R1.out.blk o) 2]; rfl); clear c1 g1)
        obtain ⟨W, hW⟩ : ∃ W, W = w1.alloc (.cells #[.int .i64 v.a, .int .i64 v.b, .int .i64 v.t] 51) := ⟨_, rfl⟩
        rw [← hW]
        have HW1 : Hid (Below w1.heap.size w1 W) := by rw [hW]; exact below_alloc' (Below.refl _ _) _
        have HWb : Hid (W.heap[w1.heap.size]? = some (.cells #[.int .i64 v.a, .int .i64 v.b, .int .i64 v.t] 51)) := by rw [hW]; exact blk_new _ _
        have RW := Hid.mk (R1.out.below HW1.out)
        have BW : Hid (Below B w W) := B1.out.trans (HW1.out.mono (Nat.le_trans hBs B1.out.size))
        clear hW x1 u2
        have p0 := cell_regrown ((blk_cell HWb.out 0).trans (show _ = some (.int .i64 v.a) from rfl))
        have p1 := cell_regrown ((blk_cell HWb.out 1).trans (show _ = some (.int .i64 v.b) from rfl))
        have p2 := cell_regrown ((blk_cell HWb.out 2).trans (show _ = some (.int .i64 v.t) from rfl))
        have s0 := cell_regrown ((blk_cell RW.out.blk 0).trans (show _ = some (.slice a1 N1 c1) from rfl))
        have s1 := cell_regrown ((blk_cell RW.out.blk 1).trans (show _ = some (.slice a2 N2 c2) from rfl))
        have s2 := cell_regrown ((blk_cell RW.out.blk 2).trans (show _ = some (.slice a3 N c3) from rfl))
        have cN : ∀ d os, Calls Tryz.prog 36 #[.agg #[.slice a1 N1 c1, .slice a2 N2 c2, .slice a3 N c3]] (grow (redrawn W d) os) fun e w'' => e = .returned (.int .i64 M) ∧ ∃ p : Regrown, w'' = grow (redrawn W p.d) p.os := fun d os => Calls.regrown_of (CN.out _)
        have cV : ∀ d os, Calls Tryz.prog 48 #[.agg #[.int .i64 v.a, .int .i64 v.b, .int .i64 v.t], .int .i64 M] (grow (redrawn W d) os) fun e w'' => e = .returned (.bool true) ∧ ∃ p : Regrown, w'' = grow (redrawn W p.d) p.os := fun d os => Calls.regrown_of (by have := Valid.roadI v.a v.b v.t M (grow (redrawn W d) os) hM0 hM1; rw [HG.out] at this; exact this)
        refine wp_region_quiet_below (by kernel_rfl) (by kernel_rfl) ?_
        repeat (first | go_big_quiet_step (first | exact cN _ _ | exact cV _ _) | quiet_step (first | exact cN _ _ | exact cV _ _))
        refine wpQuiet_nil ?_
        intro _ hw'
        obtain ⟨⟨dq, osq⟩, hw''⟩ := hw'
        subst hw''
        clear p0 p1 p2 s0 s1 s2 cN cV
        obtain ⟨W5, hW5⟩ : ∃ W5, W5 = grow (redrawn W dq) osq := ⟨_, rfl⟩
        rw [← hW5]
        have b5 : Hid (Below W.heap.size W W5) := by rw [hW5]; exact below_regrown _ dq osq
        have B5 : Hid (Below B w W5) := BW.out.trans (b5.out.mono (Nat.le_trans hBs BW.out.size))
        have R5 := Hid.mk (RW.out.below b5.out)
        have V5 := Hid.mk (blk_below HWb.out b5.out)
        have X5 : Hid (Below w1.heap.size w1 W5) := below_then HW1.out b5.out
        clear hW5
        go_wp2_with fail
        have cC : ∀ (d : Nat) (os : Array Obj), True := fun _ _ => trivial
        refine wp_region_quiet_below (by kernel_rfl) (by kernel_rfl) ?_
        repeat (first | go_big_quiet_step (exact cC _ _) | quiet_step (exact cC _ _))
        refine wpQuiet_nil ?_
        intro _ hw'
        obtain ⟨⟨dq7, osq7⟩, hw''⟩ := hw'
        subst hw''
        clear cC
        obtain ⟨W7, hW7⟩ : ∃ W7, W7 = grow (redrawn W5 dq7) osq7 := ⟨_, rfl⟩
        rw [← hW7]
        have b7 : Hid (Below W5.heap.size W5 W7) := by rw [hW7]; exact below_regrown _ dq7 osq7
        have B7 : Hid (Below B w W7) := B5.out.trans (b7.out.mono (Nat.le_trans hBs B5.out.size))
        have R3 := Hid.mk (R5.out.below b7.out)
        have VB := Hid.mk (blk_below V5.out b7.out)
        clear hW7
        go_wp2_with fail
        have y0 : W7.cell? ⟨r, 2, none⟩ = some (.slice a3 N c3) := (blk_cell R3.out.blk 2).trans rfl
        have yd : W7.drew.cell? ⟨r, 2, none⟩ = some (.slice a3 N c3) := y0
        have ya : ∀ o, (W7.alloc o).drew.cell? ⟨r, 2, none⟩ = some (.slice a3 N c3) := fun o => cell_alloc' y0 o
        have yb : ∀ o, (W7.drew.alloc o).cell? ⟨r, 2, none⟩ = some (.slice a3 N c3) := fun o => cell_alloc' (w := W7.drew) y0 o
        have q0 : W7.drew.cell? ⟨w1.heap.size, 0, none⟩ = some (.int .i64 v.a) := (blk_cell VB.out 0).trans rfl
        have q1 : W7.drew.cell? ⟨w1.heap.size, 1, none⟩ = some (.int .i64 v.b) := (blk_cell VB.out 1).trans rfl
        have q2 : W7.drew.cell? ⟨w1.heap.size, 2, none⟩ = some (.int .i64 v.t) := (blk_cell VB.out 2).trans rfl
        have HRow : Hid (W7.ownsRow B 51 3 (.slice a3 N c3) N (s.R.flatMap Rd.cells)) := by unfold Hid; have := R3.out.acc.r; rwa [← HN.out] at this
        have hB3 : B ≤ W7.heap.size := Nat.le_trans hBs B7.out.size
        go_region_law (refine step_append_own rfl (.tmp 65) (.tmp 67) 25 rfl B 51 i0 (.agg #[.int .i64 0, .int .i64 0, .int .i64 0]) 3 24 Tryz.underlying25 hi hz0 hz1 hz2 rfl (by decide) (.slice a3 N c3) N (s.R.flatMap Rd.cells) (by simp [Act.eval, Act.put]) (HRow.out.alloc (.cells v.cells.toArray 51)) ⟨W7.heap.size, 0, none⟩ 1 1 v.cells (by simp [Act.eval, Act.put]) rfl (news_at W7 v.cells 51) (by intro u hu; simp only [Rd.cells, List.mem_cons, List.not_mem_nil, or_false] at hu; rcases hu with rfl | rfl | rfl <;> rfl) (by unfold maxLen; omega) (by omega) (by simp; omega) ?_; intro vn w7 hown hgrow; obtain ⟨an, cn, rfl, -⟩ := row_shape hown; obtain ⟨b9, t9, l9⟩ := app9 hgrow HRow.out R3.out.blk (by decide) hB3; have B9 := Hid.mk b9; have P9 := Hid.mk (t9 _ _ _ _ _ (by decide) R3.out.acc.v); have S9 := Hid.mk (t9 _ _ _ _ _ (by decide) R3.out.acc.q); have L9 := Hid.mk (l9 _ B7.out); have R9 : Hid (w7.ownsRow B 51 3 (.slice an (N + 1) cn) (s.R ++ [v]).length ((s.R ++ [v]).flatMap Rd.cells)) := (by unfold Hid; rw [List.length_append, List.length_singleton, List.flatMap_append, ← HN.out]; simpa using hown); have z0 : w7.cell? ⟨r, 2, none⟩ = some (.slice a3 N c3) := (blk_cell B9.out 2).trans rfl; have f0 : w7.frozen? ⟨r, 2, none⟩ = false := blk_unfrozen B9.out 2; clear hown hgrow b9 t9 l9)
        all_goals go_wp2
        all_goals go_ret
        all_goals (rw [HE.out, HA.out.1, HA.out.2]; exact ⟨rfl, fun _ => ⟨_, blk_set B9.out 2 _, row_set P9.out B9.out (by decide), row_set S9.out B9.out (by decide), row_set R9.out B9.out (by decide)⟩, L9.out.setCell (p := ⟨r, 2, none⟩) hBr _⟩)
      | succ m =>
        obtain ⟨g3, x, ha3, hx, e0, e1, e2⟩ := last_road (by have := HRd.out.acc.r; rwa [← HN.out] at this ⊢) HN.out.symm
        subst ha3
        have HL := Hid.mk hx
        have HX : Hid (lastBefore s v = beforeB x v) := by unfold Hid lastBefore; rw [hx]
        have hcb := cmpR_before x v
        have XC := Hid.mk (And.intro e0 (And.intro e1 e2))
        obtain ⟨N, hN0⟩ : ∃ N, N = m + 1 := ⟨_, rfl⟩
        have HN0 := Hid.mk hN0
        rw [← hN0] at HN HRd CN hc3 hs3
        have n1 : (0 : Int) < (N : Int) := by omega
        have n1' : decide ((0 : Int) < (N : Int)) = true := by simpa using n1
        have n1n : 0 < N := by omega
        have n2 : IntKind.i64.wrap ((N : Int) - 1) = (m : Int) := by rw [IntKind.wrap_i64]; omega
        have n3 : (N : Int) - 1 = (m : Int) := by omega
        have n4 : (m : Int) < (N : Int) := by omega
        have n5 : (0 : Int) ≤ (m : Int) := by omega
        clear hx e0 e1 e2 hN0
        cases hf : beforeB x v with
        | false =>
          have HA : Hid ((addR s v).1 = 8) := by unfold Hid addR; rw [HM.out, hgv, HX.out, hf]; rfl
          have hc' : decide (0 ≤ cmpR x v) = true := by rw [hcb, hf]; rfl
          have hc2' : 0 ≤ cmpR x v := by simpa using hc'
          clear hgv hf hcb
          go_enter Tryz.func57, Tryz.ntmps57
          go_wp2_with (go_at_call 72; refine HC.out.mono ?_; rintro e w1 ⟨rfl, c1, g1⟩; have x1 : ∀ o, (w1.alloc o).cell? ⟨g, 1, none⟩ = some (.nilIface) := (by intro o; obtain ⟨u, hx, -⟩ := c1; rw [blk_cell (blk_alloc hx o) 1]; rfl); have B1 : Hid (Below B w w1) := gr_below g1 hB hBs; have R1 := Hid.mk (HRd.out.grown HCur.out g1 hne); have u2 : ∀ o, (w1.alloc o).cell? ⟨r, 2, none⟩ = some (.slice (some ⟨g3, 0, none⟩) N c3) := (by intro o; rw [blk_cell (blk_alloc R1.out.blk o) 2]; rfl); clear c1 g1)
          obtain ⟨W, hW⟩ : ∃ W, W = w1.alloc (.cells #[.int .i64 v.a, .int .i64 v.b, .int .i64 v.t] 51) := ⟨_, rfl⟩
          rw [← hW]
          have HW1 : Hid (Below w1.heap.size w1 W) := by rw [hW]; exact below_alloc' (Below.refl _ _) _
          have HWb : Hid (W.heap[w1.heap.size]? = some (.cells #[.int .i64 v.a, .int .i64 v.b, .int .i64 v.t] 51)) := by rw [hW]; exact blk_new _ _
          have RW := Hid.mk (R1.out.below HW1.out)
          have BW : Hid (Below B w W) := B1.out.trans (HW1.out.mono (Nat.le_trans hBs B1.out.size))
          clear hW x1 u2
          have p0 := cell_regrown ((blk_cell HWb.out 0).trans (show _ = some (.int .i64 v.a) from rfl))
          have p1 := cell_regrown ((blk_cell HWb.out 1).trans (show _ = some (.int .i64 v.b) from rfl))
          have p2 := cell_regrown ((blk_cell HWb.out 2).trans (show _ = some (.int .i64 v.t) from rfl))
          have s0 := cell_regrown ((blk_cell RW.out.blk 0).trans (show _ = some (.slice a1 N1 c1) from rfl))
          have s1 := cell_regrown ((blk_cell RW.out.blk 1).trans (show _ = some (.slice a2 N2 c2) from rfl))
          have s2 := cell_regrown ((blk_cell RW.out.blk 2).trans (show _ = some (.slice (some ⟨g3, 0, none⟩) N c3) from rfl))
          have cN : ∀ d os, Calls Tryz.prog 36 #[.agg #[.slice a1 N1 c1, .slice a2 N2 c2, .slice (some ⟨g3, 0, none⟩) N c3]] (grow (redrawn W d) os) fun e w'' => e = .returned (.int .i64 M) ∧ ∃ p : Regrown, w'' = grow (redrawn W p.d) p.os := fun d os => Calls.regrown_of (CN.out _)
          have cV : ∀ d os, Calls Tryz.prog 48 #[.agg #[.int .i64 v.a, .int .i64 v.b, .int .i64 v.t], .int .i64 M] (grow (redrawn W d) os) fun e w'' => e = .returned (.bool true) ∧ ∃ p : Regrown, w'' = grow (redrawn W p.d) p.os := fun d os => Calls.regrown_of (by have := Valid.roadI v.a v.b v.t M (grow (redrawn W d) os) hM0 hM1; rw [HG.out] at this; exact this)
          refine wp_region_quiet_below (by kernel_rfl) (by kernel_rfl) ?_
          repeat (first | go_big_quiet_step (first | exact cN _ _ | exact cV _ _) | quiet_step (first | exact cN _ _ | exact cV _ _))
          refine wpQuiet_nil ?_
          intro _ hw'
          obtain ⟨⟨dq, osq⟩, hw''⟩ := hw'
          subst hw''
          clear p0 p1 p2 s0 s1 s2 cN cV
          obtain ⟨W5, hW5⟩ : ∃ W5, W5 = grow (redrawn W dq) osq := ⟨_, rfl⟩
          rw [← hW5]
          have b5 : Hid (Below W.heap.size W W5) := by rw [hW5]; exact below_regrown _ dq osq
          have B5 : Hid (Below B w W5) := BW.out.trans (b5.out.mono (Nat.le_trans hBs BW.out.size))
          have R5 := Hid.mk (RW.out.below b5.out)
          have V5 := Hid.mk (blk_below HWb.out b5.out)
          have X5 : Hid (Below w1.heap.size w1 W5) := below_then HW1.out b5.out
          clear hW5
          go_wp2_with fail
          have p0 := cell_regrown ((blk_cell V5.out 0).trans (show _ = some (.int .i64 v.a) from rfl))
          have p1 := cell_regrown ((blk_cell V5.out 1).trans (show _ = some (.int .i64 v.b) from rfl))
          have p2 := cell_regrown ((blk_cell V5.out 2).trans (show _ = some (.int .i64 v.t) from rfl))
          have s2 := cell_regrown ((blk_cell R5.out.blk 2).trans (show _ = some (.slice (some ⟨g3, 0, none⟩) N c3) from rfl))
          obtain ⟨g3', x', ha3', hx', e0, e1, e2⟩ := last_road (by have := R5.out.acc.r; rwa [← HN.out] at this ⊢) (by rw [← HN.out]; exact HN0.out)
          obtain rfl : g3 = g3' := by injection ha3' with q; injection q
          obtain rfl : x = x' := by have := HL.out; rw [hx'] at this; injection this with q; exact q.symm
          have t0 := cell_regrown e0
          have t1 := cell_regrown e1
          have t2 := cell_regrown e2
          clear hx' ha3' e0 e1 e2
          have cC : ∀ d os, Calls Tryz.prog 49 #[.agg #[.int .i64 x.a, .int .i64 x.b, .int .i64 x.t], .agg #[.int .i64 v.a, .int .i64 v.b, .int .i64 v.t]] (grow (redrawn W5 d) os) fun e w'' => e = .returned (.int .i64 (cmpR x v)) ∧ ∃ p : Regrown, w'' = grow (redrawn W5 p.d) p.os := fun d os => Calls.regrown_of (compareRoads x v _)
          refine wp_region_quiet_below (by kernel_rfl) (by kernel_rfl) ?_
          repeat (first | go_big_quiet_step (exact cC _ _) | quiet_step (exact cC _ _))
          refine wpQuiet_nil ?_
          intro _ hw'
          obtain ⟨⟨dq7, osq7⟩, hw''⟩ := hw'
          subst hw''
          clear p0 p1 p2 s2 t0 t1 t2 cC
          obtain ⟨W7, hW7⟩ : ∃ W7, W7 = grow (redrawn W5 dq7) osq7 := ⟨_, rfl⟩
          rw [← hW7]
          have b7 : Hid (Below W5.heap.size W5 W7) := by rw [hW7]; exact below_regrown _ dq7 osq7
          have B7 : Hid (Below B w W7) := B5.out.trans (b7.out.mono (Nat.le_trans hBs B5.out.size))
          have R3 := Hid.mk (R5.out.below b7.out)
          have VB := Hid.mk (blk_below V5.out b7.out)
          clear hW7
          go_wp2
          go_ret
          rw [HE.out, HA.out]
          exact ⟨rfl, fun h => by omega, B7.out⟩
        | true =>
          have hc' : decide (0 ≤ cmpR x v) = false := by rw [hcb, hf]; rfl
          have hc2' : cmpR x v < 0 := by simpa using hc'
          by_cases hmx : N = 4000
          · have HA : Hid ((addR s v).1 = 9) := by unfold Hid addR; rw [HM.out, hgv, HX.out, hf, if_neg (by decide), if_neg (by decide), if_pos (by rw [← HN.out]; exact hmx)]
            have nmx : ((N : Int) == 4000) = true := by simp; omega
            have hmx' := Hid.mk hmx
            clear hgv hf hcb hmx
            go_enter Tryz.func57, Tryz.ntmps57
            go_wp2_with (go_at_call 72; refine HC.out.mono ?_; rintro e w1 ⟨rfl, c1, g1⟩; have x1 : ∀ o, (w1.alloc o).cell? ⟨g, 1, none⟩ = some (.nilIface) := (by intro o; obtain ⟨u, hx, -⟩ := c1; rw [blk_cell (blk_alloc hx o) 1]; rfl); have B1 : Hid (Below B w w1) := gr_below g1 hB hBs; have R1 := Hid.mk (HRd.out.grown HCur.out g1 hne); have u2 : ∀ o, (w1.alloc o).cell? ⟨r, 2, none⟩ = some (.slice (some ⟨g3, 0, none⟩) N c3) := (by intro o; rw [blk_cell (blk_alloc R1.out.blk o) 2]; rfl); clear c1 g1)
            obtain ⟨W, hW⟩ : ∃ W, W = w1.alloc (.cells #[.int .i64 v.a, .int .i64 v.b, .int .i64 v.t] 51) := ⟨_, rfl⟩
            rw [← hW]
            have HW1 : Hid (Below w1.heap.size w1 W) := by rw [hW]; exact below_alloc' (Below.refl _ _) _
            have HWb : Hid (W.heap[w1.heap.size]? = some (.cells #[.int .i64 v.a, .int .i64 v.b, .int .i64 v.t] 51)) := by rw [hW]; exact blk_new _ _
            have RW := Hid.mk (R1.out.below HW1.out)
            have BW : Hid (Below B w W) := B1.out.trans (HW1.out.mono (Nat.le_trans hBs B1.out.size))
            clear hW x1 u2
            have p0 := cell_regrown ((blk_cell HWb.out 0).trans (show _ = some (.int .i64 v.a) from rfl))
            have p1 := cell_regrown ((blk_cell HWb.out 1).trans (show _ = some (.int .i64 v.b) from rfl))
            have p2 := cell_regrown ((blk_cell HWb.out 2).trans (show _ = some (.int .i64 v.t) from rfl))
            have s0 := cell_regrown ((blk_cell RW.out.blk 0).trans (show _ = some (.slice a1 N1 c1) from rfl))
            have s1 := cell_regrown ((blk_cell RW.out.blk 1).trans (show _ = some (.slice a2 N2 c2) from rfl))
            have s2 := cell_regrown ((blk_cell RW.out.blk 2).trans (show _ = some (.slice (some ⟨g3, 0, none⟩) N c3) from rfl))
            have cN : ∀ d os, Calls Tryz.prog 36 #[.agg #[.slice a1 N1 c1, .slice a2 N2 c2, .slice (some ⟨g3, 0, none⟩) N c3]] (grow (redrawn W d) os) fun e w'' => e = .returned (.int .i64 M) ∧ ∃ p : Regrown, w'' = grow (redrawn W p.d) p.os := fun d os => Calls.regrown_of (CN.out _)
            have cV : ∀ d os, Calls Tryz.prog 48 #[.agg #[.int .i64 v.a, .int .i64 v.b, .int .i64 v.t], .int .i64 M] (grow (redrawn W d) os) fun e w'' => e = .returned (.bool true) ∧ ∃ p : Regrown, w'' = grow (redrawn W p.d) p.os := fun d os => Calls.regrown_of (by have := Valid.roadI v.a v.b v.t M (grow (redrawn W d) os) hM0 hM1; rw [HG.out] at this; exact this)
            refine wp_region_quiet_below (by kernel_rfl) (by kernel_rfl) ?_
            repeat (first | go_big_quiet_step (first | exact cN _ _ | exact cV _ _) | quiet_step (first | exact cN _ _ | exact cV _ _))
            refine wpQuiet_nil ?_
            intro _ hw'
            obtain ⟨⟨dq, osq⟩, hw''⟩ := hw'
            subst hw''
            clear p0 p1 p2 s0 s1 s2 cN cV
            obtain ⟨W5, hW5⟩ : ∃ W5, W5 = grow (redrawn W dq) osq := ⟨_, rfl⟩
            rw [← hW5]
            have b5 : Hid (Below W.heap.size W W5) := by rw [hW5]; exact below_regrown _ dq osq
            have B5 : Hid (Below B w W5) := BW.out.trans (b5.out.mono (Nat.le_trans hBs BW.out.size))
            have R5 := Hid.mk (RW.out.below b5.out)
            have V5 := Hid.mk (blk_below HWb.out b5.out)
            have X5 : Hid (Below w1.heap.size w1 W5) := below_then HW1.out b5.out
            clear hW5
            go_wp2_with fail
            have p0 := cell_regrown ((blk_cell V5.out 0).trans (show _ = some (.int .i64 v.a) from rfl))
            have p1 := cell_regrown ((blk_cell V5.out 1).trans (show _ = some (.int .i64 v.b) from rfl))
            have p2 := cell_regrown ((blk_cell V5.out 2).trans (show _ = some (.int .i64 v.t) from rfl))
            have s2 := cell_regrown ((blk_cell R5.out.blk 2).trans (show _ = some (.slice (some ⟨g3, 0, none⟩) N c3) from rfl))
            obtain ⟨g3', x', ha3', hx', e0, e1, e2⟩ := last_road (by have := R5.out.acc.r; rwa [← HN.out] at this ⊢) (by rw [← HN.out]; exact HN0.out)
            obtain rfl : g3 = g3' := by injection ha3' with q; injection q
            obtain rfl : x = x' := by have := HL.out; rw [hx'] at this; injection this with q; exact q.symm
            have t0 := cell_regrown e0
            have t1 := cell_regrown e1
            have t2 := cell_regrown e2
            clear hx' ha3' e0 e1 e2
            have cC : ∀ d os, Calls Tryz.prog 49 #[.agg #[.int .i64 x.a, .int .i64 x.b, .int .i64 x.t], .agg #[.int .i64 v.a, .int .i64 v.b, .int .i64 v.t]] (grow (redrawn W5 d) os) fun e w'' => e = .returned (.int .i64 (cmpR x v)) ∧ ∃ p : Regrown, w'' = grow (redrawn W5 p.d) p.os := fun d os => Calls.regrown_of (compareRoads x v _)
            refine wp_region_quiet_below (by kernel_rfl) (by kernel_rfl) ?_
            repeat (first | go_big_quiet_step (exact cC _ _) | quiet_step (exact cC _ _))
            refine wpQuiet_nil ?_
            intro _ hw'
            obtain ⟨⟨dq7, osq7⟩, hw''⟩ := hw'
            subst hw''
            clear p0 p1 p2 s2 t0 t1 t2 cC
            obtain ⟨W7, hW7⟩ : ∃ W7, W7 = grow (redrawn W5 dq7) osq7 := ⟨_, rfl⟩
            rw [← hW7]
            have b7 : Hid (Below W5.heap.size W5 W7) := by rw [hW7]; exact below_regrown _ dq7 osq7
            have B7 : Hid (Below B w W7) := B5.out.trans (b7.out.mono (Nat.le_trans hBs B5.out.size))
            have R3 := Hid.mk (R5.out.below b7.out)
            have VB := Hid.mk (blk_below V5.out b7.out)
            clear hW7
            go_wp2
            go_ret
            rw [HE.out, HA.out]
            exact ⟨rfl, fun h => by omega, B7.out⟩
          · have HA : Hid ((addR s v).1 = 0 ∧ (addR s v).2 = { s with R := s.R ++ [v] }) := by unfold Hid addR; rw [HM.out, hgv, HX.out, hf, if_neg (by decide), if_neg (by decide), if_neg (by rw [← HN.out]; exact hmx)]; exact ⟨rfl, rfl⟩
            have nmx : ((N : Int) == 4000) = false := by simp; omega
            have hN4 : N ≤ 4000 := hs3
            clear hgv hf hcb
            obtain ⟨i0, hi, hz0, hz1, hz2⟩ := info_parts info3
            go_enter Tryz.func57, Tryz.ntmps57
            go_wp2_with (go_at_call 72; refine HC.out.mono ?_; rintro e w1 ⟨rfl, c1, g1⟩; have x1 : ∀ o, (w1.alloc o).cell? ⟨g, 1, none⟩ = some (.nilIface) := (by intro o; obtain ⟨u, hx, -⟩ := c1; rw [blk_cell (blk_alloc hx o) 1]; rfl); have B1 : Hid (Below B w w1) := gr_below g1 hB hBs; have R1 := Hid.mk (HRd.out.grown HCur.out g1 hne); have u2 : ∀ o, (w1.alloc o).cell? ⟨r, 2, none⟩ = some (.slice (some ⟨g3, 0, none⟩) N c3) := (by intro o; rw [blk_cell (blk_alloc R1.out.blk o) 2]; rfl); clear c1 g1)
            obtain ⟨W, hW⟩ : ∃ W, W = w1.alloc (.cells #[.int .i64 v.a, .int .i64 v.b, .int .i64 v.t] 51) := ⟨_, rfl⟩
            rw [← hW]
            have HW1 : Hid (Below w1.heap.size w1 W) := by rw [hW]; exact below_alloc' (Below.refl _ _) _
            have HWb : Hid (W.heap[w1.heap.size]? = some (.cells #[.int .i64 v.a, .int .i64 v.b, .int .i64 v.t] 51)) := by rw [hW]; exact blk_new _ _
            have RW := Hid.mk (R1.out.below HW1.out)
            have BW : Hid (Below B w W) := B1.out.trans (HW1.out.mono (Nat.le_trans hBs B1.out.size))
            clear hW x1 u2
            have p0 := cell_regrown ((blk_cell HWb.out 0).trans (show _ = some (.int .i64 v.a) from rfl))
            have p1 := cell_regrown ((blk_cell HWb.out 1).trans (show _ = some (.int .i64 v.b) from rfl))
            have p2 := cell_regrown ((blk_cell HWb.out 2).trans (show _ = some (.int .i64 v.t) from rfl))
            have s0 := cell_regrown ((blk_cell RW.out.blk 0).trans (show _ = some (.slice a1 N1 c1) from rfl))
            have s1 := cell_regrown ((blk_cell RW.out.blk 1).trans (show _ = some (.slice a2 N2 c2) from rfl))
            have s2 := cell_regrown ((blk_cell RW.out.blk 2).trans (show _ = some (.slice (some ⟨g3, 0, none⟩) N c3) from rfl))
            have cN : ∀ d os, Calls Tryz.prog 36 #[.agg #[.slice a1 N1 c1, .slice a2 N2 c2, .slice (some ⟨g3, 0, none⟩) N c3]] (grow (redrawn W d) os) fun e w'' => e = .returned (.int .i64 M) ∧ ∃ p : Regrown, w'' = grow (redrawn W p.d) p.os := fun d os => Calls.regrown_of (CN.out _)
            have cV : ∀ d os, Calls Tryz.prog 48 #[.agg #[.int .i64 v.a, .int .i64 v.b, .int .i64 v.t], .int .i64 M] (grow (redrawn W d) os) fun e w'' => e = .returned (.bool true) ∧ ∃ p : Regrown, w'' = grow (redrawn W p.d) p.os := fun d os => Calls.regrown_of (by have := Valid.roadI v.a v.b v.t M (grow (redrawn W d) os) hM0 hM1; rw [HG.out] at this; exact this)
            refine wp_region_quiet_below (by kernel_rfl) (by kernel_rfl) ?_
            repeat (first | go_big_quiet_step (first | exact cN _ _ | exact cV _ _) | quiet_step (first | exact cN _ _ | exact cV _ _))
            refine wpQuiet_nil ?_
            intro _ hw'
            obtain ⟨⟨dq, osq⟩, hw''⟩ := hw'
            subst hw''
            clear p0 p1 p2 s0 s1 s2 cN cV
            obtain ⟨W5, hW5⟩ : ∃ W5, W5 = grow (redrawn W dq) osq := ⟨_, rfl⟩
            rw [← hW5]
            have b5 : Hid (Below W.heap.size W W5) := by rw [hW5]; exact below_regrown _ dq osq
            have B5 : Hid (Below B w W5) := BW.out.trans (b5.out.mono (Nat.le_trans hBs BW.out.size))
            have R5 := Hid.mk (RW.out.below b5.out)
            have V5 := Hid.mk (blk_below HWb.out b5.out)
            have X5 : Hid (Below w1.heap.size w1 W5) := below_then HW1.out b5.out
            clear hW5
            go_wp2_with fail
            have p0 := cell_regrown ((blk_cell V5.out 0).trans (show _ = some (.int .i64 v.a) from rfl))
            have p1 := cell_regrown ((blk_cell V5.out 1).trans (show _ = some (.int .i64 v.b) from rfl))
            have p2 := cell_regrown ((blk_cell V5.out 2).trans (show _ = some (.int .i64 v.t) from rfl))
            have s2 := cell_regrown ((blk_cell R5.out.blk 2).trans (show _ = some (.slice (some ⟨g3, 0, none⟩) N c3) from rfl))
            obtain ⟨g3', x', ha3', hx', e0, e1, e2⟩ := last_road (by have := R5.out.acc.r; rwa [← HN.out] at this ⊢) (by rw [← HN.out]; exact HN0.out)
            obtain rfl : g3 = g3' := by injection ha3' with q; injection q
            obtain rfl : x = x' := by have := HL.out; rw [hx'] at this; injection this with q; exact q.symm
            have t0 := cell_regrown e0
            have t1 := cell_regrown e1
            have t2 := cell_regrown e2
            clear hx' ha3' e0 e1 e2
            have cC : ∀ d os, Calls Tryz.prog 49 #[.agg #[.int .i64 x.a, .int .i64 x.b, .int .i64 x.t], .agg #[.int .i64 v.a, .int .i64 v.b, .int .i64 v.t]] (grow (redrawn W5 d) os) fun e w'' => e = .returned (.int .i64 (cmpR x v)) ∧ ∃ p : Regrown, w'' = grow (redrawn W5 p.d) p.os := fun d os => Calls.regrown_of (compareRoads x v _)
            refine wp_region_quiet_below (by kernel_rfl) (by kernel_rfl) ?_
            repeat (first | go_big_quiet_step (exact cC _ _) | quiet_step (exact cC _ _))
            refine wpQuiet_nil ?_
            intro _ hw'
            obtain ⟨⟨dq7, osq7⟩, hw''⟩ := hw'
            subst hw''
            clear p0 p1 p2 s2 t0 t1 t2 cC
            obtain ⟨W7, hW7⟩ : ∃ W7, W7 = grow (redrawn W5 dq7) osq7 := ⟨_, rfl⟩
            rw [← hW7]
            have b7 : Hid (Below W5.heap.size W5 W7) := by rw [hW7]; exact below_regrown _ dq7 osq7
            have B7 : Hid (Below B w W7) := B5.out.trans (b7.out.mono (Nat.le_trans hBs B5.out.size))
            have R3 := Hid.mk (R5.out.below b7.out)
            have VB := Hid.mk (blk_below V5.out b7.out)
            clear hW7
            go_wp2_with fail
            have y0 : W7.cell? ⟨r, 2, none⟩ = some (.slice (some ⟨g3, 0, none⟩) N c3) := (blk_cell R3.out.blk 2).trans rfl
            have yd : W7.drew.cell? ⟨r, 2, none⟩ = some (.slice (some ⟨g3, 0, none⟩) N c3) := y0
            have ya : ∀ o, (W7.alloc o).drew.cell? ⟨r, 2, none⟩ = some (.slice (some ⟨g3, 0, none⟩) N c3) := fun o => cell_alloc' y0 o
            have yb : ∀ o, (W7.drew.alloc o).cell? ⟨r, 2, none⟩ = some (.slice (some ⟨g3, 0, none⟩) N c3) := fun o => cell_alloc' (w := W7.drew) y0 o
            have q0 : W7.drew.cell? ⟨w1.heap.size, 0, none⟩ = some (.int .i64 v.a) := (blk_cell VB.out 0).trans rfl
            have q1 : W7.drew.cell? ⟨w1.heap.size, 1, none⟩ = some (.int .i64 v.b) := (blk_cell VB.out 1).trans rfl
            have q2 : W7.drew.cell? ⟨w1.heap.size, 2, none⟩ = some (.int .i64 v.t) := (blk_cell VB.out 2).trans rfl
            have HRow : Hid (W7.ownsRow B 51 3 (.slice (some ⟨g3, 0, none⟩) N c3) N (s.R.flatMap Rd.cells)) := by unfold Hid; have := R3.out.acc.r; rwa [← HN.out] at this
            have hB3 : B ≤ W7.heap.size := Nat.le_trans hBs B7.out.size
            go_region_law (refine step_append_own rfl (.tmp 65) (.tmp 67) 25 rfl B 51 i0 (.agg #[.int .i64 0, .int .i64 0, .int .i64 0]) 3 24 Tryz.underlying25 hi hz0 hz1 hz2 rfl (by decide) (.slice (some ⟨g3, 0, none⟩) N c3) N (s.R.flatMap Rd.cells) (by simp [Act.eval, Act.put]) (HRow.out.alloc (.cells v.cells.toArray 51)) ⟨W7.heap.size, 0, none⟩ 1 1 v.cells (by simp [Act.eval, Act.put]) rfl (news_at W7 v.cells 51) (by intro u hu; simp only [Rd.cells, List.mem_cons, List.not_mem_nil, or_false] at hu; rcases hu with rfl | rfl | rfl <;> rfl) (by unfold maxLen; omega) (by omega) (by simp; omega) ?_; intro vn w7 hown hgrow; obtain ⟨an, cn, rfl, -⟩ := row_shape hown; obtain ⟨b9, t9, l9⟩ := app9 hgrow HRow.out R3.out.blk (by decide) hB3; have B9 := Hid.mk b9; have P9 := Hid.mk (t9 _ _ _ _ _ (by decide) R3.out.acc.v); have S9 := Hid.mk (t9 _ _ _ _ _ (by decide) R3.out.acc.q); have L9 := Hid.mk (l9 _ B7.out); have R9 : Hid (w7.ownsRow B 51 3 (.slice an (N + 1) cn) (s.R ++ [v]).length ((s.R ++ [v]).flatMap Rd.cells)) := (by unfold Hid; rw [List.length_append, List.length_singleton, List.flatMap_append, ← HN.out]; simpa using hown); have z0 : w7.cell? ⟨r, 2, none⟩ = some (.slice (some ⟨g3, 0, none⟩) N c3) := (blk_cell B9.out 2).trans rfl; have f0 : w7.frozen? ⟨r, 2, none⟩ = false := blk_unfrozen B9.out 2; clear hown hgrow b9 t9 l9)
            all_goals go_wp2
            all_goals go_ret
            all_goals (rw [HE.out, HA.out.1, HA.out.2]; exact ⟨rfl, fun _ => ⟨_, blk_set B9.out 2 _, row_set P9.out B9.out (by decide), row_set S9.out B9.out (by decide), row_set R9.out B9.out (by decide)⟩, L9.out.setCell (p := ⟨r, 2, none⟩) hBr _⟩)
end Go.Proofs.YtefkdpppcjlflaaGreatDoor.Parse
