import Derived.Test.YtefkdpppcjlflaaGreatDoorIt09
namespace Go.Proofs.YtefkdpppcjlflaaGreatDoor.Draw
open Go Go.RowKit Go.Proofs.YtefkdpppcjlflaaGreatDoor.Mem Go.Proofs.YtefkdpppcjlflaaGreatDoor.Parse
set_option linter.unusedVariables false
set_option linter.unusedSimpArgs false
attribute [local go_sem ↓] Go.wp_at_zero Go.wp_at_succ

def limP (k m : Nat) (p : Pl) : Pl :=
  match k with
  | 0 => ⟨10000, -10000, p.o, p.c, p.h⟩
  | 1 => ⟨p.x, p.y, 1000000 - (m : Int), 1000000, p.h⟩
  | 2 => ⟨p.x, p.y, p.o, p.c, 1000000⟩
  | 3 => ⟨p.x, p.y, p.o, p.o, p.h⟩
  | _ => ⟨-10000, 10000, p.o, p.c, p.h⟩
def dLimits (bs : List UInt8) (s : DS) (p : Pl) : Pl × DS :=
  (limP (dBelow bs s 5).1 (dBelow bs (dBelow bs s 5).2 3).1 p, if (dBelow bs s 5).1 = 1 then (dBelow bs (dBelow bs s 5).2 3).2 else (dBelow bs s 5).2)

set_option maxHeartbeats 3200000 in
set_option maxRecDepth 1000000 in
theorem limitsD (B g : Nat) (bs : List UInt8) (s : DS) (p : Pl) (w : World) (hB : B ≤ g) (hBs : B ≤ w.heap.size) (h : DC B g w bs s) (hl : bs.length ≤ 1048576) :
    Calls Tryz.prog 29 #[.pointer (some ⟨g, 0, none⟩), .agg p.vals] w fun e w' => e = .returned (.agg (dLimits bs s p).1.vals) ∧ DC B g w' bs (dLimits bs s p).2 ∧ w.grownBy w' (some g) := by
  have hgl := h.lt
  obtain ⟨k, hk⟩ : ∃ x, x = (dBelow bs s 5).1 := ⟨_, rfl⟩
  obtain ⟨s1, hs1⟩ : ∃ t, t = (dBelow bs s 5).2 := ⟨_, rfl⟩
  obtain ⟨m, hm⟩ : ∃ x, x = (dBelow bs s1 3).1 := ⟨_, rfl⟩
  obtain ⟨s2, hs2⟩ : ∃ t, t = (dBelow bs s1 3).2 := ⟨_, rfl⟩
  have HV : Hid (dLimits bs s p = (limP k m p, if k = 1 then s2 else s1)) := by unfold Hid dLimits; rw [hm, hs2, hs1, hk]
  have lk : k < 5 := by rw [hk]; exact below_lt _ _ (by omega)
  have lm : m < 3 := by rw [hm]; exact below_lt _ _ (by omega)
  have C1 : Hid (∀ w, DC B g w bs s → Calls Tryz.prog 26 #[.pointer (some ⟨g, 0, none⟩), .int .i64 5] w fun e w' => e = .returned (.int .i64 (k : Int)) ∧ DC B g w' bs s1 ∧ w.grownBy w' (some g)) := fun w hd => by rw [hk, hs1]; exact belowD B g bs s 5 w hB hd hl (by omega) (by omega)
  have C2 : Hid (∀ w, DC B g w bs s1 → Calls Tryz.prog 26 #[.pointer (some ⟨g, 0, none⟩), .int .i64 3] w fun e w' => e = .returned (.int .i64 (m : Int)) ∧ DC B g w' bs s2 ∧ w.grownBy w' (some g)) := fun w hd => by rw [hm, hs2]; exact belowD B g bs s1 3 w hB hd hl (by omega) (by omega)
  clear hk hs1 hm hs2
  obtain ⟨x, y, o, c, t⟩ := p
  have em : IntKind.i64.wrap (1000000 - (m : Int)) = 1000000 - (m : Int) := by rw [IntKind.wrap_i64]; omega
  obtain ⟨W0, hW0⟩ : ∃ W, W = w.alloc (.cells #[.int .i64 x, .int .i64 y, .int .i64 o, .int .i64 c, .int .i64 t] 43) := ⟨_, rfl⟩
  have hz0 : W0.heap.size = w.heap.size + 1 := by rw [hW0]; simp
  have A0 : Hid (Below w.heap.size w W0) := by rw [hW0]; exact below_alloc' (Below.refl _ _) _
  have X0 : Hid (W0.heap[w.heap.size]? = some (.cells #[.int .i64 x, .int .i64 y, .int .i64 o, .int .i64 c, .int .i64 t] 43)) := by rw [hW0]; exact blk_new _ _
  obtain ⟨W1, hW1⟩ : ∃ W, W = W0.alloc (.cells #[.int .i64 0, .int .i64 0, .int .i64 0, .int .i64 0, .int .i64 0] 43) := ⟨_, rfl⟩
  have A1 : Hid (Below W0.heap.size W0 W1) := by rw [hW1]; exact below_alloc' (Below.refl _ _) _
  have Z1 : Hid (W1.heap[w.heap.size + 1]? = some (.cells #[.int .i64 0, .int .i64 0, .int .i64 0, .int .i64 0, .int .i64 0] 43)) := by rw [hW1, ← hz0]; exact blk_new _ _
  have P0 : Hid (PS B g w.heap.size 43 w W1 bs s #[.int .i64 x, .int .i64 y, .int .i64 o, .int .i64 c, .int .i64 t]) := ⟨(h.keep hBs A0.out).keep (by omega) A1.out, blk_below X0.out A1.out, gb_below (below_then A0.out A1.out)⟩
  have hrg : w.heap.size ≠ g := by omega
  have hBr : B ≤ w.heap.size + 1 := by omega
  have hr0 : w.heap.size ≤ w.heap.size + 1 := Nat.le_succ _
  have hr1 : w.heap.size + 1 ≠ w.heap.size := by omega
  have hr2 : w.heap.size + 1 ≠ g := by omega
  clear h
  rcases (show k = 0 ∨ k = 1 ∨ k = 2 ∨ k = 3 ∨ k = 4 by omega) with rfl | rfl | rfl | rfl | rfl
  · show Calls _ _ #[_, .agg #[.int .i64 x, .int .i64 y, .int .i64 o, .int .i64 c, .int .i64 t]] _ _
    go_enter Tryz.func29, Tryz.ntmps29
    go_wp2_with fail
    rw [← hW0, ← hW1]
    clear hW0 hW1 X0
    refine (C1.out _ P0.out.d).mono ?_
    rintro e w1 ⟨rfl, d1, g1⟩
    have P1 := Hid.mk (P0.out.call d1 g1 hrg)
    have Z2 := Hid.mk (blk_grown Z1.out g1 hr2)
    clear d1 g1 P0 Z1
    have j0 := (blk_cell P1.out.x 0).trans (show _ = some (.int .i64 (x)) from rfl)
    have n0 := blk_unfrozen P1.out.x 0
    have u0 := (blk_cell Z2.out 0).trans (show _ = some (.int .i64 0) from rfl)
    have y0 := blk_unfrozen Z2.out 0
    have j1 := (blk_cell P1.out.x 1).trans (show _ = some (.int .i64 (y)) from rfl)
    have n1 := blk_unfrozen P1.out.x 1
    have u1 := (blk_cell Z2.out 1).trans (show _ = some (.int .i64 0) from rfl)
    have y1 := blk_unfrozen Z2.out 1
    have j2 := (blk_cell P1.out.x 2).trans (show _ = some (.int .i64 (o)) from rfl)
    have n2 := blk_unfrozen P1.out.x 2
    have u2 := (blk_cell Z2.out 2).trans (show _ = some (.int .i64 0) from rfl)
    have y2 := blk_unfrozen Z2.out 2
    have j3 := (blk_cell P1.out.x 3).trans (show _ = some (.int .i64 (c)) from rfl)
    have n3 := blk_unfrozen P1.out.x 3
    have u3 := (blk_cell Z2.out 3).trans (show _ = some (.int .i64 0) from rfl)
    have y3 := blk_unfrozen Z2.out 3
    have j4 := (blk_cell P1.out.x 4).trans (show _ = some (.int .i64 (t)) from rfl)
    have n4 := blk_unfrozen P1.out.x 4
    have u4 := (blk_cell Z2.out 4).trans (show _ = some (.int .i64 0) from rfl)
    have y4 := blk_unfrozen Z2.out 4
    go_wp2
    have Q0 := Hid.mk (P1.out.set 0 (.int .i64 (10000)) hBs hrg (Nat.le_refl _))
    simp only [List.setIfInBounds_toArray, List.set_cons_zero, List.set_cons_succ] at Q0
    have Y0 := Hid.mk (other_set (i := 0) (v := .int .i64 (10000)) Z2.out hr1)
    have Q1 := Hid.mk (Q0.out.set 1 (.int .i64 (-10000)) hBs hrg (Nat.le_refl _))
    simp only [List.setIfInBounds_toArray, List.set_cons_zero, List.set_cons_succ] at Q1
    have Y1 := Hid.mk (other_set (i := 1) (v := .int .i64 (-10000)) Y0.out hr1)
    obtain ⟨F, hF, xF, dF, gF⟩ := finP Y1.out Q1.out.d Q1.out.gb hBr hr2 hr0 (.int .i64 (10000)) (.int .i64 (-10000)) (.int .i64 (o)) (.int .i64 (c)) (.int .i64 (t))
    rw [← hF]
    have r0 := (blk_cell xF 0).trans (show _ = some (.int .i64 (10000)) from rfl)
    have r1 := (blk_cell xF 1).trans (show _ = some (.int .i64 (-10000)) from rfl)
    have r2 := (blk_cell xF 2).trans (show _ = some (.int .i64 (o)) from rfl)
    have r3 := (blk_cell xF 3).trans (show _ = some (.int .i64 (c)) from rfl)
    have r4 := (blk_cell xF 4).trans (show _ = some (.int .i64 (t)) from rfl)
    have DF := Hid.mk dF
    have GF := Hid.mk gF
    clear hF xF dF gF
    clear j0 n0 u0 y0 j1 n1 u1 y1 j2 n2 u2 y2 j3 n3 u3 y3 j4 n4 u4 y4
    refine bodyPost_ret (by simp [results, Tryz.results29, go_sem, r0, r1, r2, r3, r4]; try rfl) rfl ?_
    rw [HV.out]
    exact ⟨rfl, DF.out, GF.out⟩
  · show Calls _ _ #[_, .agg #[.int .i64 x, .int .i64 y, .int .i64 o, .int .i64 c, .int .i64 t]] _ _
    go_enter Tryz.func29, Tryz.ntmps29
    go_wp2_with fail
    rw [← hW0, ← hW1]
    clear hW0 hW1 X0
    refine (C1.out _ P0.out.d).mono ?_
    rintro e w1 ⟨rfl, d1, g1⟩
    have P1 := Hid.mk (P0.out.call d1 g1 hrg)
    have Z2 := Hid.mk (blk_grown Z1.out g1 hr2)
    clear d1 g1 P0 Z1
    have j3 := (blk_cell P1.out.x 3).trans (show _ = some (.int .i64 c) from rfl)
    have n3 := blk_unfrozen P1.out.x 3
    go_wp2_with fail
    clear j3 n3
    have P2 := Hid.mk (P1.out.set 3 (.int .i64 1000000) hBs hrg (Nat.le_refl _))
    simp only [List.setIfInBounds_toArray, List.set_cons_zero, List.set_cons_succ] at P2
    have Z3 := Hid.mk (other_set (i := 3) (v := .int .i64 1000000) Z2.out hr1)
    refine (C2.out _ P2.out.d).mono ?_
    rintro e w2 ⟨rfl, d2, g2⟩
    have P3 := Hid.mk (P2.out.call d2 g2 hrg)
    have Z4 := Hid.mk (blk_grown Z3.out g2 hr2)
    clear d2 g2 P2 Z3
    have j0 := (blk_cell P3.out.x 0).trans (show _ = some (.int .i64 (x)) from rfl)
    have n0 := blk_unfrozen P3.out.x 0
    have u0 := (blk_cell Z4.out 0).trans (show _ = some (.int .i64 0) from rfl)
    have y0 := blk_unfrozen Z4.out 0
    have j1 := (blk_cell P3.out.x 1).trans (show _ = some (.int .i64 (y)) from rfl)
    have n1 := blk_unfrozen P3.out.x 1
    have u1 := (blk_cell Z4.out 1).trans (show _ = some (.int .i64 0) from rfl)
    have y1 := blk_unfrozen Z4.out 1
    have j2 := (blk_cell P3.out.x 2).trans (show _ = some (.int .i64 (o)) from rfl)
    have n2 := blk_unfrozen P3.out.x 2
    have u2 := (blk_cell Z4.out 2).trans (show _ = some (.int .i64 0) from rfl)
    have y2 := blk_unfrozen Z4.out 2
    have j3 := (blk_cell P3.out.x 3).trans (show _ = some (.int .i64 (1000000)) from rfl)
    have n3 := blk_unfrozen P3.out.x 3
    have u3 := (blk_cell Z4.out 3).trans (show _ = some (.int .i64 0) from rfl)
    have y3 := blk_unfrozen Z4.out 3
    have j4 := (blk_cell P3.out.x 4).trans (show _ = some (.int .i64 (t)) from rfl)
    have n4 := blk_unfrozen P3.out.x 4
    have u4 := (blk_cell Z4.out 4).trans (show _ = some (.int .i64 0) from rfl)
    have y4 := blk_unfrozen Z4.out 4
    go_wp2
    have Q0 := Hid.mk (P3.out.set 2 (.int .i64 (1000000 - (m : Int))) hBs hrg (Nat.le_refl _))
    simp only [List.setIfInBounds_toArray, List.set_cons_zero, List.set_cons_succ] at Q0
    have Y0 := Hid.mk (other_set (i := 2) (v := .int .i64 (1000000 - (m : Int))) Z4.out hr1)
    obtain ⟨F, hF, xF, dF, gF⟩ := finP Y0.out Q0.out.d Q0.out.gb hBr hr2 hr0 (.int .i64 (x)) (.int .i64 (y)) (.int .i64 (1000000 - (m : Int))) (.int .i64 (1000000)) (.int .i64 (t))
    rw [← hF]
    have r0 := (blk_cell xF 0).trans (show _ = some (.int .i64 (x)) from rfl)
    have r1 := (blk_cell xF 1).trans (show _ = some (.int .i64 (y)) from rfl)
    have r2 := (blk_cell xF 2).trans (show _ = some (.int .i64 (1000000 - (m : Int))) from rfl)
    have r3 := (blk_cell xF 3).trans (show _ = some (.int .i64 (1000000)) from rfl)
    have r4 := (blk_cell xF 4).trans (show _ = some (.int .i64 (t)) from rfl)
    have DF := Hid.mk dF
    have GF := Hid.mk gF
    clear hF xF dF gF
    clear j0 n0 u0 y0 j1 n1 u1 y1 j2 n2 u2 y2 j3 n3 u3 y3 j4 n4 u4 y4
    refine bodyPost_ret (by simp [results, Tryz.results29, go_sem, r0, r1, r2, r3, r4]; try rfl) rfl ?_
    rw [HV.out]
    exact ⟨rfl, DF.out, GF.out⟩
  · show Calls _ _ #[_, .agg #[.int .i64 x, .int .i64 y, .int .i64 o, .int .i64 c, .int .i64 t]] _ _
    go_enter Tryz.func29, Tryz.ntmps29
    go_wp2_with fail
    rw [← hW0, ← hW1]
    clear hW0 hW1 X0
    refine (C1.out _ P0.out.d).mono ?_
    rintro e w1 ⟨rfl, d1, g1⟩
    have P1 := Hid.mk (P0.out.call d1 g1 hrg)
    have Z2 := Hid.mk (blk_grown Z1.out g1 hr2)
    clear d1 g1 P0 Z1
    have j0 := (blk_cell P1.out.x 0).trans (show _ = some (.int .i64 (x)) from rfl)
    have n0 := blk_unfrozen P1.out.x 0
    have u0 := (blk_cell Z2.out 0).trans (show _ = some (.int .i64 0) from rfl)
    have y0 := blk_unfrozen Z2.out 0
    have j1 := (blk_cell P1.out.x 1).trans (show _ = some (.int .i64 (y)) from rfl)
    have n1 := blk_unfrozen P1.out.x 1
    have u1 := (blk_cell Z2.out 1).trans (show _ = some (.int .i64 0) from rfl)
    have y1 := blk_unfrozen Z2.out 1
    have j2 := (blk_cell P1.out.x 2).trans (show _ = some (.int .i64 (o)) from rfl)
    have n2 := blk_unfrozen P1.out.x 2
    have u2 := (blk_cell Z2.out 2).trans (show _ = some (.int .i64 0) from rfl)
    have y2 := blk_unfrozen Z2.out 2
    have j3 := (blk_cell P1.out.x 3).trans (show _ = some (.int .i64 (c)) from rfl)
    have n3 := blk_unfrozen P1.out.x 3
    have u3 := (blk_cell Z2.out 3).trans (show _ = some (.int .i64 0) from rfl)
    have y3 := blk_unfrozen Z2.out 3
    have j4 := (blk_cell P1.out.x 4).trans (show _ = some (.int .i64 (t)) from rfl)
    have n4 := blk_unfrozen P1.out.x 4
    have u4 := (blk_cell Z2.out 4).trans (show _ = some (.int .i64 0) from rfl)
    have y4 := blk_unfrozen Z2.out 4
    go_wp2
    have Q0 := Hid.mk (P1.out.set 4 (.int .i64 (1000000)) hBs hrg (Nat.le_refl _))
    simp only [List.setIfInBounds_toArray, List.set_cons_zero, List.set_cons_succ] at Q0
    have Y0 := Hid.mk (other_set (i := 4) (v := .int .i64 (1000000)) Z2.out hr1)
    obtain ⟨F, hF, xF, dF, gF⟩ := finP Y0.out Q0.out.d Q0.out.gb hBr hr2 hr0 (.int .i64 (x)) (.int .i64 (y)) (.int .i64 (o)) (.int .i64 (c)) (.int .i64 (1000000))
    rw [← hF]
    have r0 := (blk_cell xF 0).trans (show _ = some (.int .i64 (x)) from rfl)
    have r1 := (blk_cell xF 1).trans (show _ = some (.int .i64 (y)) from rfl)
    have r2 := (blk_cell xF 2).trans (show _ = some (.int .i64 (o)) from rfl)
    have r3 := (blk_cell xF 3).trans (show _ = some (.int .i64 (c)) from rfl)
    have r4 := (blk_cell xF 4).trans (show _ = some (.int .i64 (1000000)) from rfl)
    have DF := Hid.mk dF
    have GF := Hid.mk gF
    clear hF xF dF gF
    clear j0 n0 u0 y0 j1 n1 u1 y1 j2 n2 u2 y2 j3 n3 u3 y3 j4 n4 u4 y4
    refine bodyPost_ret (by simp [results, Tryz.results29, go_sem, r0, r1, r2, r3, r4]; try rfl) rfl ?_
    rw [HV.out]
    exact ⟨rfl, DF.out, GF.out⟩
  · show Calls _ _ #[_, .agg #[.int .i64 x, .int .i64 y, .int .i64 o, .int .i64 c, .int .i64 t]] _ _
    go_enter Tryz.func29, Tryz.ntmps29
    go_wp2_with fail
    rw [← hW0, ← hW1]
    clear hW0 hW1 X0
    refine (C1.out _ P0.out.d).mono ?_
    rintro e w1 ⟨rfl, d1, g1⟩
    have P1 := Hid.mk (P0.out.call d1 g1 hrg)
    have Z2 := Hid.mk (blk_grown Z1.out g1 hr2)
    clear d1 g1 P0 Z1
    have j0 := (blk_cell P1.out.x 0).trans (show _ = some (.int .i64 (x)) from rfl)
    have n0 := blk_unfrozen P1.out.x 0
    have u0 := (blk_cell Z2.out 0).trans (show _ = some (.int .i64 0) from rfl)
    have y0 := blk_unfrozen Z2.out 0
    have j1 := (blk_cell P1.out.x 1).trans (show _ = some (.int .i64 (y)) from rfl)
    have n1 := blk_unfrozen P1.out.x 1
    have u1 := (blk_cell Z2.out 1).trans (show _ = some (.int .i64 0) from rfl)
    have y1 := blk_unfrozen Z2.out 1
    have j2 := (blk_cell P1.out.x 2).trans (show _ = some (.int .i64 (o)) from rfl)
    have n2 := blk_unfrozen P1.out.x 2
    have u2 := (blk_cell Z2.out 2).trans (show _ = some (.int .i64 0) from rfl)
    have y2 := blk_unfrozen Z2.out 2
    have j3 := (blk_cell P1.out.x 3).trans (show _ = some (.int .i64 (c)) from rfl)
    have n3 := blk_unfrozen P1.out.x 3
    have u3 := (blk_cell Z2.out 3).trans (show _ = some (.int .i64 0) from rfl)
    have y3 := blk_unfrozen Z2.out 3
    have j4 := (blk_cell P1.out.x 4).trans (show _ = some (.int .i64 (t)) from rfl)
    have n4 := blk_unfrozen P1.out.x 4
    have u4 := (blk_cell Z2.out 4).trans (show _ = some (.int .i64 0) from rfl)
    have y4 := blk_unfrozen Z2.out 4
    go_wp2
    have Q0 := Hid.mk (P1.out.set 3 (.int .i64 (o)) hBs hrg (Nat.le_refl _))
    simp only [List.setIfInBounds_toArray, List.set_cons_zero, List.set_cons_succ] at Q0
    have Y0 := Hid.mk (other_set (i := 3) (v := .int .i64 (o)) Z2.out hr1)
    obtain ⟨F, hF, xF, dF, gF⟩ := finP Y0.out Q0.out.d Q0.out.gb hBr hr2 hr0 (.int .i64 (x)) (.int .i64 (y)) (.int .i64 (o)) (.int .i64 (o)) (.int .i64 (t))
    rw [← hF]
    have r0 := (blk_cell xF 0).trans (show _ = some (.int .i64 (x)) from rfl)
    have r1 := (blk_cell xF 1).trans (show _ = some (.int .i64 (y)) from rfl)
    have r2 := (blk_cell xF 2).trans (show _ = some (.int .i64 (o)) from rfl)
    have r3 := (blk_cell xF 3).trans (show _ = some (.int .i64 (o)) from rfl)
    have r4 := (blk_cell xF 4).trans (show _ = some (.int .i64 (t)) from rfl)
    have DF := Hid.mk dF
    have GF := Hid.mk gF
    clear hF xF dF gF
    clear j0 n0 u0 y0 j1 n1 u1 y1 j2 n2 u2 y2 j3 n3 u3 y3 j4 n4 u4 y4
    refine bodyPost_ret (by simp [results, Tryz.results29, go_sem, r0, r1, r2, r3, r4]; try rfl) rfl ?_
    rw [HV.out]
    exact ⟨rfl, DF.out, GF.out⟩
  · show Calls _ _ #[_, .agg #[.int .i64 x, .int .i64 y, .int .i64 o, .int .i64 c, .int .i64 t]] _ _
    go_enter Tryz.func29, Tryz.ntmps29
    go_wp2_with fail
    rw [← hW0, ← hW1]
    clear hW0 hW1 X0
    refine (C1.out _ P0.out.d).mono ?_
    rintro e w1 ⟨rfl, d1, g1⟩
    have P1 := Hid.mk (P0.out.call d1 g1 hrg)
    have Z2 := Hid.mk (blk_grown Z1.out g1 hr2)
    clear d1 g1 P0 Z1
    have j0 := (blk_cell P1.out.x 0).trans (show _ = some (.int .i64 (x)) from rfl)
    have n0 := blk_unfrozen P1.out.x 0
    have u0 := (blk_cell Z2.out 0).trans (show _ = some (.int .i64 0) from rfl)
    have y0 := blk_unfrozen Z2.out 0
    have j1 := (blk_cell P1.out.x 1).trans (show _ = some (.int .i64 (y)) from rfl)
    have n1 := blk_unfrozen P1.out.x 1
    have u1 := (blk_cell Z2.out 1).trans (show _ = some (.int .i64 0) from rfl)
    have y1 := blk_unfrozen Z2.out 1
    have j2 := (blk_cell P1.out.x 2).trans (show _ = some (.int .i64 (o)) from rfl)
    have n2 := blk_unfrozen P1.out.x 2
    have u2 := (blk_cell Z2.out 2).trans (show _ = some (.int .i64 0) from rfl)
    have y2 := blk_unfrozen Z2.out 2
    have j3 := (blk_cell P1.out.x 3).trans (show _ = some (.int .i64 (c)) from rfl)
    have n3 := blk_unfrozen P1.out.x 3
    have u3 := (blk_cell Z2.out 3).trans (show _ = some (.int .i64 0) from rfl)
    have y3 := blk_unfrozen Z2.out 3
    have j4 := (blk_cell P1.out.x 4).trans (show _ = some (.int .i64 (t)) from rfl)
    have n4 := blk_unfrozen P1.out.x 4
    have u4 := (blk_cell Z2.out 4).trans (show _ = some (.int .i64 0) from rfl)
    have y4 := blk_unfrozen Z2.out 4
    go_wp2
    have Q0 := Hid.mk (P1.out.set 0 (.int .i64 (-10000)) hBs hrg (Nat.le_refl _))
    simp only [List.setIfInBounds_toArray, List.set_cons_zero, List.set_cons_succ] at Q0
    have Y0 := Hid.mk (other_set (i := 0) (v := .int .i64 (-10000)) Z2.out hr1)
    have Q1 := Hid.mk (Q0.out.set 1 (.int .i64 (10000)) hBs hrg (Nat.le_refl _))
    simp only [List.setIfInBounds_toArray, List.set_cons_zero, List.set_cons_succ] at Q1
    have Y1 := Hid.mk (other_set (i := 1) (v := .int .i64 (10000)) Y0.out hr1)
    obtain ⟨F, hF, xF, dF, gF⟩ := finP Y1.out Q1.out.d Q1.out.gb hBr hr2 hr0 (.int .i64 (-10000)) (.int .i64 (10000)) (.int .i64 (o)) (.int .i64 (c)) (.int .i64 (t))
    rw [← hF]
    have r0 := (blk_cell xF 0).trans (show _ = some (.int .i64 (-10000)) from rfl)
    have r1 := (blk_cell xF 1).trans (show _ = some (.int .i64 (10000)) from rfl)
    have r2 := (blk_cell xF 2).trans (show _ = some (.int .i64 (o)) from rfl)
    have r3 := (blk_cell xF 3).trans (show _ = some (.int .i64 (c)) from rfl)
    have r4 := (blk_cell xF 4).trans (show _ = some (.int .i64 (t)) from rfl)
    have DF := Hid.mk dF
    have GF := Hid.mk gF
    clear hF xF dF gF
    clear j0 n0 u0 y0 j1 n1 u1 y1 j2 n2 u2 y2 j3 n3 u3 y3 j4 n4 u4 y4
    refine bodyPost_ret (by simp [results, Tryz.results29, go_sem, r0, r1, r2, r3, r4]; try rfl) rfl ?_
    rw [HV.out]
    exact ⟨rfl, DF.out, GF.out⟩
end Go.Proofs.YtefkdpppcjlflaaGreatDoor.Draw
