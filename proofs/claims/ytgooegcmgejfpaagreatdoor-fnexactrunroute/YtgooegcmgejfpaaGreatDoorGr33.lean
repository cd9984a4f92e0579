import Derived.Test.YtgooegcmgejfpaaGreatDoorGr32
import Derived.Deep.DrawnRows
import Derived.StillTailTactics
namespace Go.Proofs.YtgooegcmgejfpaaGreatDoor.Mac
open Go Go.RowKit Go.Proofs.YtgooegcmgejfpaaGreatDoor.Mem
open Go.Proofs.YtgooegcmgejfpaaGreatDoor.Arith (cl cl_bd sadd smul addS mulS addI mulI ret_int)
set_option linter.unusedVariables false
set_option linter.unusedSimpArgs false
attribute [local go_sem ↓] Go.wp_at_zero Go.wp_at_succ

set_option maxHeartbeats 3200000 in
set_option maxRecDepth 100000 in
theorem ex18 (E : En) (B : Nat → Is) (n : Nat) (bl : Option Addr) (cb : Nat) (R S : Int) (nr ns f : Nat) (hrec : Rec E B n bl cb R S nr ns f) (k : Nat) (r s : List Int) (ar al : Option Addr) (cr cs : Nat) (w : World) (hf : n - k ≤ f + 1) (hM : Mst w E B n bl R S ar al nr ns r s) (hk : k < n) (p a b c : Int) (hB : B k = ⟨p, a, b, c⟩) (hok : OkI R S k n ⟨p, a, b, c⟩) (hp : p = 18) :
    Calls Tryz.prog 42 #[.slice bl n cb, .int .i64 (k : Int), .agg #[.slice ar nr cr, .slice al ns cs, .int .i64 E.tags, .int .i64 E.skills, .int .i64 E.q, .int .i64 (E.nQ : Int), .int .i64 (-1)]] w (ExPost E nr ns cr ar al (exec E B n (f + 1) k r s) w) := by
  have FarR : Hid (Far (w.heap.size + 1) ar nr) := by unfold Hid; rw [hM.hnr]; exact hM.hr.far (Nat.le_succ _)
  have FarL : Hid (Far (w.heap.size + 1) al ns) := by unfold Hid; rw [hM.hns]; exact hM.hs.far (Nat.le_succ _)
  have HM := Hid.mk hM
  have HREC := Hid.mk hrec
  rcases hM.hbl with h0 | ⟨gb, ob, rfl, hbl⟩
  · omega
  have hcs : w.rangeAt gb (ob + k * 4) (B k).cells := hbl k hk
  rw [hB] at hcs
  obtain ⟨i0, i1, i2, i3⟩ := Is.at hcs
  have gi := lt_of_cell i0
  have lr := hM.lr
  have ls := hM.ls
  have hn := hM.hn
  have hR := hM.hR
  have k0 : (0 : Int) ≤ (k : Int) := by omega
  have k1 : (k : Int) < (n : Int) := by omega
  have k2 : decide ((n : Int) ≤ (k : Int)) = false := by simp; omega
  clear hcs hbl hrec
  subst hp
  have hru := hok.rul (by simp)
  obtain ⟨ma, rfl⟩ : ∃ m : Nat, a = (m : Int) := ⟨a.toNat, by have := hok.tst (by simp); simp at this; omega⟩
  have hta := hok.tst (by simp)
  simp only at hru hta
  have a0 : (0 : Int) ≤ (ma : Int) := by omega
  have a1 : (ma : Int) < (nr : Int) := by omega
  obtain ⟨gr, orr, rfl, e1⟩ := hM.hr.at (i := ma) (by have := hM.hnr; omega)
  have ge := lt_of_cell e1
  have ge1 : gr < w.heap.size + 1 := by omega
  have ge2 : gr < w.heap.size + 1 + 1 := by omega
  by_cases hz : r.getD ma 0 = 0
  · have he : exec E B n (f + 1) k r s = (r, s, b) := by
      rw [exec, if_neg (by omega), hB]; dsimp only; rw [if_neg (by omega)]; rw [if_neg (by omega)]; rw [if_neg (by omega)]; rw [if_pos rfl, gt_nat, if_pos hz]
    rw [he]
    rw [hz] at e1
    clear he hM hok hz hR hta hB
    go_enter Tryz.func42, Tryz.ntmps42
    go_wp2
    go_returns
    exact ⟨some ⟨gr, orr, none⟩, al, cr, cs, rfl, HM.out.hr.below (by go_grown), HM.out.hs.below (by go_grown), Nw.refl _ _, Nw.refl _ _, by go_grown, fun h => h⟩
  · have he : exec E B n (f + 1) k r s = exec E B n f (k + 1) r s := by
      rw [exec, if_neg (by omega), hB]; dsimp only; rw [if_neg (by omega)]; rw [if_neg (by omega)]; rw [if_neg (by omega)]; rw [if_pos rfl, gt_nat, if_neg hz]
    rw [he]
    have hz' : (r.getD ma 0 == 0) = false := by simpa using hz
    clear he hM hok hz hR hta hB
    generalize r.getD ma 0 = A at *
    go_enter Tryz.func42, Tryz.ntmps42
    go_wp2_with fail
    refine (HREC.out (k + 1) r s (some ⟨gr, orr, none⟩) al cr cs _ (by omega) (HM.out.below (by go_grown))).mono ?_
    rintro e w9 ⟨ar', al', cr', cs', rfl, hr', hs', nr', ns', hb, hcp⟩
    have HCP : Hid (nr ≤ cr → nr ≤ cr') := Hid.mk (hcp)
    have HB := Hid.mk (below_then (w := w) (by go_grown) hb)
    have A1 := Hid.mk (blk_below (blk_alloc (blk_new1 w _ _) _) hb)
    have FR := Hid.mk (FarR.out.nw nr' (by simp))
    have FL := Hid.mk (FarL.out.nw ns' (by simp))
    have NR := Hid.mk (Nw.trans (Nw.refl w _) nr' (by simp; try omega))
    have NL := Hid.mk (Nw.trans (Nw.refl w _) ns' (by simp; try omega))
    have HR := Hid.mk hr'
    have HL := Hid.mk hs'
    have LN := Hid.mk (exec_len (E := E) (B := B) (n := n) f (k + 1) r s)
    clear hr' hs' nr' ns' hb hcp
    generalize exec E B n f (k + 1) r s = rr at *
    have x0 := blk_cell A1.out 0
    have y0 := blk_unfrozen A1.out 0
    have x1 := blk_cell A1.out 1
    have y1 := blk_unfrozen A1.out 1
    have x2 := blk_cell A1.out 2
    have y2 := blk_unfrozen A1.out 2
    have x3 := blk_cell A1.out 3
    have y3 := blk_unfrozen A1.out 3
    have x4 := blk_cell A1.out 4
    have y4 := blk_unfrozen A1.out 4
    have x5 := blk_cell A1.out 5
    have y5 := blk_unfrozen A1.out 5
    have x6 := blk_cell A1.out 6
    have y6 := blk_unfrozen A1.out 6
    simp only [List.getElem?_toArray, List.getElem?_cons_zero, List.getElem?_cons_succ] at x0 x1 x2 x3 x4 x5 x6
    go_wp2
    refine bodyPost_ret (v := .agg #[.slice ar' nr cr', .slice al' ns cs', .int .i64 E.tags, .int .i64 E.skills, .int .i64 E.q, .int .i64 (E.nQ : Int), .int .i64 rr.2.2]) (by simp [results, Tryz.results42, go_sem, x0, x1, x2, x3, x4, x5, x6]) rfl ?_
    clear x0 x1 x2 x3 x4 x5 x6 y0 y1 y2 y3 y4 y5 y6
    exact ⟨ar', al', cr', cs', rfl, seven HR.out (by rw [LN.out.1, ← HM.out.hnr]; exact FR.out), seven HL.out (by rw [LN.out.2, ← HM.out.hns]; exact FL.out), NR.out, NL.out, (((((((HB.out.setCell (p := ⟨w.heap.size + 1, 0, none⟩) (Nat.le_succ _) _).setCell (p := ⟨w.heap.size + 1, 1, none⟩) (Nat.le_succ _) _).setCell (p := ⟨w.heap.size + 1, 2, none⟩) (Nat.le_succ _) _).setCell (p := ⟨w.heap.size + 1, 3, none⟩) (Nat.le_succ _) _).setCell (p := ⟨w.heap.size + 1, 4, none⟩) (Nat.le_succ _) _).setCell (p := ⟨w.heap.size + 1, 5, none⟩) (Nat.le_succ _) _).setCell (p := ⟨w.heap.size + 1, 6, none⟩) (Nat.le_succ _) _), HCP.out⟩

set_option maxHeartbeats 3200000 in
set_option maxRecDepth 100000 in
theorem ex19 (E : En) (B : Nat → Is) (n : Nat) (bl : Option Addr) (cb : Nat) (R S : Int) (nr ns f : Nat) (hrec : Rec E B n bl cb R S nr ns f) (k : Nat) (r s : List Int) (ar al : Option Addr) (cr cs : Nat) (w : World) (hf : n - k ≤ f + 1) (hM : Mst w E B n bl R S ar al nr ns r s) (hk : k < n) (p a b c : Int) (hB : B k = ⟨p, a, b, c⟩) (hok : OkI R S k n ⟨p, a, b, c⟩) (hp : p = 19) :
    Calls Tryz.prog 42 #[.slice bl n cb, .int .i64 (k : Int), .agg #[.slice ar nr cr, .slice al ns cs, .int .i64 E.tags, .int .i64 E.skills, .int .i64 E.q, .int .i64 (E.nQ : Int), .int .i64 (-1)]] w (ExPost E nr ns cr ar al (exec E B n (f + 1) k r s) w) := by
  have FarR : Hid (Far (w.heap.size + 1) ar nr) := by unfold Hid; rw [hM.hnr]; exact hM.hr.far (Nat.le_succ _)
  have FarL : Hid (Far (w.heap.size + 1) al ns) := by unfold Hid; rw [hM.hns]; exact hM.hs.far (Nat.le_succ _)
  have HM := Hid.mk hM
  have HREC := Hid.mk hrec
  rcases hM.hbl with h0 | ⟨gb, ob, rfl, hbl⟩
  · omega
  have hcs : w.rangeAt gb (ob + k * 4) (B k).cells := hbl k hk
  rw [hB] at hcs
  obtain ⟨i0, i1, i2, i3⟩ := Is.at hcs
  have gi := lt_of_cell i0
  have lr := hM.lr
  have ls := hM.ls
  have hn := hM.hn
  have hR := hM.hR
  have k0 : (0 : Int) ≤ (k : Int) := by omega
  have k1 : (k : Int) < (n : Int) := by omega
  have k2 : decide ((n : Int) ≤ (k : Int)) = false := by simp; omega
  clear hcs hbl hrec
  subst hp
  have hsl := hok.slt (by simp)
  have hrg := hok.reg (by simp)
  obtain ⟨mb, rfl⟩ : ∃ m : Nat, b = (m : Int) := ⟨b.toNat, by simp at hrg; omega⟩
  simp only at hsl hrg
  obtain ⟨q0, q1, hQ, t0, t1, s0, s1⟩ := hM.hE
  by_cases hq : E.q < 0
  · have he : exec E B n (f + 1) k r s = exec E B n f (k + 1) r s := by
      rw [exec, if_neg (by omega), hB]; dsimp only; rw [if_neg (by omega)]; rw [if_neg (by omega)]; rw [if_neg (by omega)]; rw [if_neg (by omega)]; rw [if_pos rfl, if_pos hq]
    rw [he]
    have hq' : decide (0 ≤ E.q) = false := by simp; omega
    clear he hM hok hR hrg hsl hB hq
    go_enter Tryz.func42, Tryz.ntmps42
    go_wp2_with fail
    refine (HREC.out (k + 1) r s ar al cr cs _ (by omega) (HM.out.below (by go_grown))).mono ?_
    rintro e w9 ⟨ar', al', cr', cs', rfl, hr', hs', nr', ns', hb, hcp⟩
    have HCP : Hid (nr ≤ cr → nr ≤ cr') := Hid.mk (hcp)
    have HB := Hid.mk (below_then (w := w) (by go_grown) hb)
    have A1 := Hid.mk (blk_below (blk_alloc (blk_new1 w _ _) _) hb)
    have FR := Hid.mk (FarR.out.nw nr' (by simp))
    have FL := Hid.mk (FarL.out.nw ns' (by simp))
    have NR := Hid.mk (Nw.trans (Nw.refl w _) nr' (by simp; try omega))
    have NL := Hid.mk (Nw.trans (Nw.refl w _) ns' (by simp; try omega))
    have HR := Hid.mk hr'
    have HL := Hid.mk hs'
    have LN := Hid.mk (exec_len (E := E) (B := B) (n := n) f (k + 1) r s)
    clear hr' hs' nr' ns' hb hcp
    generalize exec E B n f (k + 1) r s = rr at *
    have x0 := blk_cell A1.out 0
    have y0 := blk_unfrozen A1.out 0
    have x1 := blk_cell A1.out 1
    have y1 := blk_unfrozen A1.out 1
    have x2 := blk_cell A1.out 2
    have y2 := blk_unfrozen A1.out 2
    have x3 := blk_cell A1.out 3
    have y3 := blk_unfrozen A1.out 3
    have x4 := blk_cell A1.out 4
    have y4 := blk_unfrozen A1.out 4
    have x5 := blk_cell A1.out 5
    have y5 := blk_unfrozen A1.out 5
    have x6 := blk_cell A1.out 6
    have y6 := blk_unfrozen A1.out 6
    simp only [List.getElem?_toArray, List.getElem?_cons_zero, List.getElem?_cons_succ] at x0 x1 x2 x3 x4 x5 x6
    go_wp2
    refine bodyPost_ret (v := .agg #[.slice ar' nr cr', .slice al' ns cs', .int .i64 E.tags, .int .i64 E.skills, .int .i64 E.q, .int .i64 (E.nQ : Int), .int .i64 rr.2.2]) (by simp [results, Tryz.results42, go_sem, x0, x1, x2, x3, x4, x5, x6]) rfl ?_
    clear x0 x1 x2 x3 x4 x5 x6 y0 y1 y2 y3 y4 y5 y6
    exact ⟨ar', al', cr', cs', rfl, seven HR.out (by rw [LN.out.1, ← HM.out.hnr]; exact FR.out), seven HL.out (by rw [LN.out.2, ← HM.out.hns]; exact FL.out), NR.out, NL.out, (((((((HB.out.setCell (p := ⟨w.heap.size + 1, 0, none⟩) (Nat.le_succ _) _).setCell (p := ⟨w.heap.size + 1, 1, none⟩) (Nat.le_succ _) _).setCell (p := ⟨w.heap.size + 1, 2, none⟩) (Nat.le_succ _) _).setCell (p := ⟨w.heap.size + 1, 3, none⟩) (Nat.le_succ _) _).setCell (p := ⟨w.heap.size + 1, 4, none⟩) (Nat.le_succ _) _).setCell (p := ⟨w.heap.size + 1, 5, none⟩) (Nat.le_succ _) _).setCell (p := ⟨w.heap.size + 1, 6, none⟩) (Nat.le_succ _) _), HCP.out⟩
  · obtain ⟨j0, j1, j2, j3⟩ := slot_bd hM.hS hsl.1 hsl.2 (by omega) q1 hQ hM.S1
    have z1 : IntKind.i64.wrap (a * (E.nQ : Int)) = a * (E.nQ : Int) := by rw [IntKind.wrap_i64]; omega
    obtain ⟨m, hm⟩ : ∃ m : Nat, a * (E.nQ : Int) + E.q = (m : Int) := ⟨(a * (E.nQ : Int) + E.q).toNat, by omega⟩
    have z2 : IntKind.i64.wrap (a * (E.nQ : Int) + E.q) = (m : Int) := by rw [IntKind.wrap_i64]; omega
    have he : exec E B n (f + 1) k r s = exec E B n f (k + 1) r (s.set m (r.getD mb 0)) := by
      rw [exec, if_neg (by omega), hB]; dsimp only; rw [if_neg (by omega)]; rw [if_neg (by omega)]; rw [if_neg (by omega)]; rw [if_neg (by omega)]; rw [if_pos rfl, if_neg hq, hm]; rfl
    rw [he]
    rw [hm] at j1
    have hq' : 0 ≤ E.q := by omega
    have a0 : (0 : Int) ≤ (mb : Int) := by omega
    have a1 : (mb : Int) < (nr : Int) := by omega
    obtain ⟨gr, orr, rfl, e1⟩ := hM.hr.at (i := mb) (by have := hM.hnr; omega)
    have ge := lt_of_cell e1
    have ge1 : gr < w.heap.size + 1 := by omega
    have ge2 : gr < w.heap.size + 1 + 1 := by omega
    have hbd := Hid.mk (hM.Br mb)
    have hgb := Hid.mk gi
    obtain ⟨A, hA⟩ : ∃ A, A = r.getD mb 0 := ⟨_, rfl⟩
    rw [← hA] at e1 hbd ⊢
    have HA := Hid.mk hA
    clear he hM hok hR hrg hsl hB hq hm hA q0 q1 hQ t0 t1 s0 s1 j0 j2 j3
    go_enter Tryz.func42, Tryz.ntmps42
    go_wp2_with fail
    obtain ⟨W, hW⟩ : ∃ W, W = (((w.alloc (.cells #[.slice (some ⟨gr, orr, none⟩) nr cr, .slice al ns cs, .int .i64 E.tags, .int .i64 E.skills, .int .i64 E.q, .int .i64 (E.nQ : Int), .int .i64 (-1)] 83)).alloc (.cells #[.slice none 0 0, .slice none 0 0, .int .i64 0, .int .i64 0, .int .i64 0, .int .i64 0, .int .i64 0] 83)).alloc (.cells #[.int .i64 19, .int .i64 a, .int .i64 (mb : Int), .int .i64 c] 133)) := ⟨_, rfl⟩
    rw [← hW]
    have K0 : Hid (W.heap[w.heap.size]? = some (.cells #[.slice (some ⟨gr, orr, none⟩) nr cr, .slice al ns cs, .int .i64 E.tags, .int .i64 E.skills, .int .i64 E.q, .int .i64 (E.nQ : Int), .int .i64 (-1)] 83)) := by unfold Hid; rw [hW]; exact blk_alloc (blk_alloc (blk_new _ _) _) _
    have K1 : Hid (W.heap[w.heap.size + 1]? = some (.cells #[.slice none 0 0, .slice none 0 0, .int .i64 0, .int .i64 0, .int .i64 0, .int .i64 0, .int .i64 0] 83)) := by unfold Hid; rw [hW]; exact blk_alloc (blk_new1 _ _ _) _
    have K2 : Hid (W.heap[w.heap.size + 1 + 1]? = some (.cells #[.int .i64 19, .int .i64 a, .int .i64 (mb : Int), .int .i64 c] 133)) := by unfold Hid; rw [hW]; exact blk_new2 _ _ _ _
    have HBW : Hid (Below w.heap.size w W) := by unfold Hid; rw [hW]; go_grown
    have HSZ : Hid (W.heap.size = w.heap.size + 3) := by unfold Hid; rw [hW]; simp
    clear hW
    have e2 := cell_keep HBW.out e1
    have y0 := blk_cell K0.out 0
    have y1 := blk_cell K0.out 1
    have y4 := blk_cell K0.out 4
    have y5 := blk_cell K0.out 5
    have x1 := blk_cell K2.out 1
    have x2 := blk_cell K2.out 2
    simp only [List.getElem?_toArray, List.getElem?_cons_zero, List.getElem?_cons_succ] at y0 y1 y4 y5 x1 x2
    have HLd : Hid (Li W.drew al s) := HM.out.hs.below HBW.out.drew
    clear i0 i1 i2 i3 e1
    go_still_tail 16, (by kernel_rfl)
    clear y0 y1 y4 y5 x1 x2 e2
    go_wp2_with fail
    refine (setS al ns cs s m A _ HM.out.hns HLd.out (by omega) (by omega)).mono ?_
    rintro e w1 ⟨g, c', rfl, hl1, hb1, hg1, -⟩
    have hwz : W.drew.heap.size = w.heap.size + 3 := HSZ.out
    have hg2 : w.heap.size + 3 ≤ g := by rw [← hwz]; exact hg1
    have hw1 : w.heap.size + 3 ≤ w1.heap.size := by rw [← hwz]; exact hb1.size
    have B1 := Hid.mk (below_then HBW.out.drew hb1)
    have L0 := Hid.mk (blk_below (w := W.drew) K0.out hb1)
    have L1 := Hid.mk (blk_below (w := W.drew) K1.out hb1)
    have L2 := Hid.mk (blk_below (w := W.drew) K2.out hb1)
    have MR := Hid.mk (HM.out.below B1.out)
    have HL1 := Hid.mk hl1
    clear hl1 hb1 hg1 K0 K1 K2 HBW HSZ HLd hwz
    have u0 := blk_cell L0.out 0
    have u1 := blk_cell L0.out 1
    have u2 := blk_cell L0.out 2
    have u3 := blk_cell L0.out 3
    have u4 := blk_cell L0.out 4
    have u5 := blk_cell L0.out 5
    have u6 := blk_cell L0.out 6
    have q2 := blk_unfrozen L0.out 1
    simp only [List.getElem?_toArray, List.getElem?_cons_zero, List.getElem?_cons_succ] at u0 u1 u2 u3 u4 u5 u6
    go_wp2_with fail
    clear u0 u1 u2 u3 u4 u5 u6 q2
    obtain ⟨Y, hY⟩ : ∃ Y, Y = w1.setCell ⟨w.heap.size, 1, none⟩ (.slice (some ⟨g, 0, none⟩) ns c') := ⟨_, rfl⟩
    rw [← hY]
    have M0 : Hid (Y.heap[w.heap.size]? = some (.cells #[.slice (some ⟨gr, orr, none⟩) nr cr, .slice (some ⟨g, 0, none⟩) ns c', .int .i64 E.tags, .int .i64 E.skills, .int .i64 E.q, .int .i64 (E.nQ : Int), .int .i64 (-1)] 83)) := by
      have := blk_set L0.out 1 (.slice (some ⟨g, 0, none⟩) ns c')
      rw [← hY] at this
      simp only [List.setIfInBounds_toArray, List.set_cons_zero, List.set_cons_succ] at this
      exact this
    have M1 : Hid (Y.heap[w.heap.size + 1]? = some (.cells #[.slice none 0 0, .slice none 0 0, .int .i64 0, .int .i64 0, .int .i64 0, .int .i64 0, .int .i64 0] 83)) := by unfold Hid; rw [hY]; exact blk_set_other L1.out (by simp) _
    have BY : Hid (Below w.heap.size w Y) := by unfold Hid; rw [hY]; exact B1.out.setCell (Nat.le_refl _) _
    have HYS : Hid (Y.heap.size = w1.heap.size) := by unfold Hid; rw [hY, size_set]
    have FL2 : Hid (Far (w.heap.size + 1) (some ⟨g, 0, none⟩) ns) := Or.inr fun b hb' => by cases hb'; show g ≠ _; omega
    have MY : Hid (Mst Y E B n (some ⟨gb, ob, none⟩) R S (some ⟨gr, orr, none⟩) (some ⟨g, 0, none⟩) nr ns r (s.set m A)) := by
      have h := MR.out
      refine ⟨?_, ?_, h.hnr, by rw [List.length_set]; exact h.hns, h.lr, h.ls, h.Br, h.Bs.set hbd.out.1 hbd.out.2, h.hR, h.hS, h.S1, h.hE, ?_, h.hn⟩
      · rw [hY]; exact h.hr.set (Or.inr fun b hb' => by cases hb'; show gr ≠ _; omega)
      · rw [hY]; exact HL1.out.set (Or.inr fun b hb' => by cases hb'; show g ≠ _; omega)
      · rw [hY]
        rcases h.hbl with h0 | ⟨b', o', hbo, h1⟩
        · exact Or.inl h0
        · cases hbo
          exact Or.inr ⟨gb, ob, rfl, fun i hi => rangeAt_set_other (h1 i hi) (by show w.heap.size ≠ gb; omega) _⟩
    clear hY L0 L1 L2 MR HL1
    clear FarL
    have FarL := FL2
    refine (HREC.out (k + 1) r (s.set m A) (some ⟨gr, orr, none⟩) (some ⟨g, 0, none⟩) cr c' _ (by omega) MY.out).mono ?_
    rintro e w9 ⟨ar', al', cr', cs', rfl, hr', hs', nr', ns', hb, hcp⟩
    have HCP : Hid (nr ≤ cr → nr ≤ cr') := Hid.mk (hcp)
    have HB := Hid.mk (below_then BY.out hb)
    have A1 := Hid.mk (blk_below M1.out hb)
    have FR := Hid.mk (FarR.out.nw nr' (by have := HYS.out; omega))
    have FL := Hid.mk (FarL.out.nw ns' (by have := HYS.out; omega))
    have NR := Hid.mk (Nw.trans (Nw.refl w _) nr' BY.out.size)
    have NL := Hid.mk (Nw.trans (a := al) (Or.inr fun b hb' => by cases hb'; show _ ≤ g; omega) ns' BY.out.size)
    have HR := Hid.mk hr'
    have HL := Hid.mk hs'
    have LN := Hid.mk (exec_len (E := E) (B := B) (n := n) f (k + 1) r (s.set m A))
    clear hr' hs' nr' ns' hb hcp
    generalize exec E B n f (k + 1) r (s.set m A) = rr at *
    have x0 := blk_cell A1.out 0
    have y0 := blk_unfrozen A1.out 0
    have x1 := blk_cell A1.out 1
    have y1 := blk_unfrozen A1.out 1
    have x2 := blk_cell A1.out 2
    have y2 := blk_unfrozen A1.out 2
    have x3 := blk_cell A1.out 3
    have y3 := blk_unfrozen A1.out 3
    have x4 := blk_cell A1.out 4
    have y4 := blk_unfrozen A1.out 4
    have x5 := blk_cell A1.out 5
    have y5 := blk_unfrozen A1.out 5
    have x6 := blk_cell A1.out 6
    have y6 := blk_unfrozen A1.out 6
    simp only [List.getElem?_toArray, List.getElem?_cons_zero, List.getElem?_cons_succ] at x0 x1 x2 x3 x4 x5 x6
    go_wp2
    refine bodyPost_ret (v := .agg #[.slice ar' nr cr', .slice al' ns cs', .int .i64 E.tags, .int .i64 E.skills, .int .i64 E.q, .int .i64 (E.nQ : Int), .int .i64 rr.2.2]) (by simp [results, Tryz.results42, go_sem, x0, x1, x2, x3, x4, x5, x6]) rfl ?_
    clear x0 x1 x2 x3 x4 x5 x6 y0 y1 y2 y3 y4 y5 y6
    exact ⟨ar', al', cr', cs', rfl, seven HR.out (by rw [LN.out.1, ← HM.out.hnr]; exact FR.out), seven HL.out (by rw [LN.out.2, List.length_set, ← HM.out.hns]; exact FL.out), NR.out, NL.out, (((((((HB.out.setCell (p := ⟨w.heap.size + 1, 0, none⟩) (Nat.le_succ _) _).setCell (p := ⟨w.heap.size + 1, 1, none⟩) (Nat.le_succ _) _).setCell (p := ⟨w.heap.size + 1, 2, none⟩) (Nat.le_succ _) _).setCell (p := ⟨w.heap.size + 1, 3, none⟩) (Nat.le_succ _) _).setCell (p := ⟨w.heap.size + 1, 4, none⟩) (Nat.le_succ _) _).setCell (p := ⟨w.heap.size + 1, 5, none⟩) (Nat.le_succ _) _).setCell (p := ⟨w.heap.size + 1, 6, none⟩) (Nat.le_succ _) _), HCP.out⟩

end Go.Proofs.YtgooegcmgejfpaaGreatDoor.Mac
