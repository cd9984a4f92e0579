import Derived.Test.YtgooegcmgejfpaaGreatDoorGr16
import Derived.Deep.DrawnRows
namespace Go.Proofs.YtgooegcmgejfpaaGreatDoor.Mac
open Go Go.RowKit Go.Proofs.YtgooegcmgejfpaaGreatDoor.Mem
open Go.Proofs.YtgooegcmgejfpaaGreatDoor.Arith (cl cl_bd sadd smul addS mulS addI mulI ret_int)
set_option linter.unusedVariables false
set_option linter.unusedSimpArgs false
attribute [local go_sem ↓] Go.wp_at_zero Go.wp_at_succ

/-- The seven cells of the answer's block are written; a list that lies elsewhere stays. -/
theorem seven {w : World} {G : Nat} {a : Option Addr} {l : List Int} {v0 v1 v2 v3 v4 v5 v6 : Value} (h : Li w a l) (hf : Far G a l.length) : Li (((((((w.setCell ⟨G, 0, none⟩ v0).setCell ⟨G, 1, none⟩ v1).setCell ⟨G, 2, none⟩ v2).setCell ⟨G, 3, none⟩ v3).setCell ⟨G, 4, none⟩ v4).setCell ⟨G, 5, none⟩ v5).setCell ⟨G, 6, none⟩ v6) a l :=
  ((((((h.set hf).set hf).set hf).set hf).set hf).set hf).set hf
set_option maxHeartbeats 1600000 in
theorem exEnd (E : En) (B : Nat → Is) (n : Nat) (bl : Option Addr) (cb nr ns f k : Nat) (r s : List Int) (ar al : Option Addr) (cr cs : Nat) (w : World) (hr : Li w ar r) (hs : Li w al s) (hk : n ≤ k) (hn : n ≤ 16384) :
    Calls Tryz.prog 42 #[.slice bl n cb, .int .i64 (k : Int), .agg #[.slice ar nr cr, .slice al ns cs, .int .i64 E.tags, .int .i64 E.skills, .int .i64 E.q, .int .i64 (E.nQ : Int), .int .i64 (-1)]] w (ExPost E nr ns cr ar al (exec E B n f k r s) w) := by
  rw [exec_end hk]
  have HR := Hid.mk hr
  have HL := Hid.mk hs
  have k1 : (n : Int) ≤ (k : Int) := by omega
  clear hr hs
  go_enter Tryz.func42, Tryz.ntmps42
  go_wp2
  go_returns
  exact ⟨ar, al, cr, cs, rfl, HR.out.below (by go_grown), HL.out.below (by go_grown), Nw.refl _ _, Nw.refl _ _, by go_grown, fun h => h⟩
set_option maxHeartbeats 3200000 in
set_option maxRecDepth 100000 in
theorem ex17 (E : En) (B : Nat → Is) (n : Nat) (bl : Option Addr) (cb : Nat) (R S : Int) (nr ns f : Nat) (hrec : Rec E B n bl cb R S nr ns f) (k : Nat) (r s : List Int) (ar al : Option Addr) (cr cs : Nat) (w : World) (hf : n - k ≤ f + 1) (hM : Mst w E B n bl R S ar al nr ns r s) (hk : k < n) (p a b c : Int) (hB : B k = ⟨p, a, b, c⟩) (hok : OkI R S k n ⟨p, a, b, c⟩) (hp : p = 17) :
    Calls Tryz.prog 42 #[.slice bl n cb, .int .i64 (k : Int), .agg #[.slice ar nr cr, .slice al ns cs, .int .i64 E.tags, .int .i64 E.skills, .int .i64 E.q, .int .i64 (E.nQ : Int), .int .i64 (-1)]] w (ExPost E nr ns cr ar al (exec E B n (f + 1) k r s) w) := by
  have FarR : Hid (Far (w.heap.size + 1) ar nr) := by unfold Hid; rw [hM.hnr]; exact hM.hr.far (Nat.le_succ _)
  have FarL : Hid (Far (w.heap.size + 1) al ns) := by unfold Hid; rw [hM.hns]; exact hM.hs.far (Nat.le_succ _)
  have HM := Hid.mk hM
  have HREC := Hid.mk hrec
  rcases hM.hbl with h0 | ⟨gb, ob, rfl, hbl⟩
  · omega
  have hcs : w.rangeAt gb (ob + k * 4) (B k).cells := hbl k hk
  rw [hB] at hcs
  obtain ⟨i0, i1, i2, i3⟩ := Is.at hcs
  have gi := lt_of_cell i0
  have lr := hM.lr
  have ls := hM.ls
  have hn := hM.hn
  have hR := hM.hR
  have k0 : (0 : Int) ≤ (k : Int) := by omega
  have k1 : (k : Int) < (n : Int) := by omega
  have k2 : decide ((n : Int) ≤ (k : Int)) = false := by simp; omega
  clear hcs hbl hrec
  subst hp
  obtain ⟨m, rfl⟩ : ∃ m : Nat, b = (m : Int) := ⟨b.toNat, by have := hok.jmp (by simp); simp at this; omega⟩
  have hj := hok.jmp (by simp)
  simp only at hj
  have he : exec E B n (f + 1) k r s = exec E B n f m r s := by
    rw [exec, if_neg (by omega), hB]; simp
  rw [he]
  clear he hM hok hR hB
  go_enter Tryz.func42, Tryz.ntmps42
  go_wp2_with fail
  refine (HREC.out m r s ar al cr cs _ (by omega) (HM.out.below (by go_grown))).mono ?_
  rintro e w9 ⟨ar', al', cr', cs', rfl, hr', hs', nr', ns', hb, hcp⟩
  have HCP : Hid (nr ≤ cr → nr ≤ cr') := Hid.mk (hcp)
  have HB := Hid.mk (below_then (w := w) (by go_grown) hb)
  have A1 := Hid.mk (blk_below (blk_alloc (blk_new1 w _ _) _) hb)
  have FR := Hid.mk (FarR.out.nw nr' (by simp))
  have FL := Hid.mk (FarL.out.nw ns' (by simp))
  have NR := Hid.mk (Nw.trans (Nw.refl w _) nr' (by simp; try omega))
  have NL := Hid.mk (Nw.trans (Nw.refl w _) ns' (by simp; try omega))
  have HR := Hid.mk hr'
  have HL := Hid.mk hs'
  have LN := Hid.mk (exec_len (E := E) (B := B) (n := n) f m r s)
  clear hr' hs' nr' ns' hb hcp
  generalize exec E B n f m r s = rr at *
  have x0 := blk_cell A1.out 0
  have y0 := blk_unfrozen A1.out 0
  have x1 := blk_cell A1.out 1
  have y1 := blk_unfrozen A1.out 1
  have x2 := blk_cell A1.out 2
  have y2 := blk_unfrozen A1.out 2
  have x3 := blk_cell A1.out 3
  have y3 := blk_unfrozen A1.out 3
  have x4 := blk_cell A1.out 4
  have y4 := blk_unfrozen A1.out 4
  have x5 := blk_cell A1.out 5
  have y5 := blk_unfrozen A1.out 5
  have x6 := blk_cell A1.out 6
  have y6 := blk_unfrozen A1.out 6
  simp only [List.getElem?_toArray, List.getElem?_cons_zero, List.getElem?_cons_succ] at x0 x1 x2 x3 x4 x5 x6
  go_wp2
  refine bodyPost_ret (v := .agg #[.slice ar' nr cr', .slice al' ns cs', .int .i64 E.tags, .int .i64 E.skills, .int .i64 E.q, .int .i64 (E.nQ : Int), .int .i64 rr.2.2]) (by simp [results, Tryz.results42, go_sem, x0, x1, x2, x3, x4, x5, x6]) rfl ?_
  clear x0 x1 x2 x3 x4 x5 x6 y0 y1 y2 y3 y4 y5 y6
  exact ⟨ar', al', cr', cs', rfl, seven HR.out (by rw [LN.out.1, ← HM.out.hnr]; exact FR.out), seven HL.out (by rw [LN.out.2, ← HM.out.hns]; exact FL.out), NR.out, NL.out, (((((((HB.out.setCell (p := ⟨w.heap.size + 1, 0, none⟩) (Nat.le_succ _) _).setCell (p := ⟨w.heap.size + 1, 1, none⟩) (Nat.le_succ _) _).setCell (p := ⟨w.heap.size + 1, 2, none⟩) (Nat.le_succ _) _).setCell (p := ⟨w.heap.size + 1, 3, none⟩) (Nat.le_succ _) _).setCell (p := ⟨w.heap.size + 1, 4, none⟩) (Nat.le_succ _) _).setCell (p := ⟨w.heap.size + 1, 5, none⟩) (Nat.le_succ _) _).setCell (p := ⟨w.heap.size + 1, 6, none⟩) (Nat.le_succ _) _), HCP.out⟩

set_option maxHeartbeats 3200000 in
set_option maxRecDepth 100000 in
theorem ex15 (E : En) (B : Nat → Is) (n : Nat) (bl : Option Addr) (cb : Nat) (R S : Int) (nr ns f : Nat) (hrec : Rec E B n bl cb R S nr ns f) (k : Nat) (r s : List Int) (ar al : Option Addr) (cr cs : Nat) (w : World) (hf : n - k ≤ f + 1) (hM : Mst w E B n bl R S ar al nr ns r s) (hk : k < n) (p a b c : Int) (hB : B k = ⟨p, a, b, c⟩) (hok : OkI R S k n ⟨p, a, b, c⟩) (hp : p = 15) :
    Calls Tryz.prog 42 #[.slice bl n cb, .int .i64 (k : Int), .agg #[.slice ar nr cr, .slice al ns cs, .int .i64 E.tags, .int .i64 E.skills, .int .i64 E.q, .int .i64 (E.nQ : Int), .int .i64 (-1)]] w (ExPost E nr ns cr ar al (exec E B n (f + 1) k r s) w) := by
  have FarR : Hid (Far (w.heap.size + 1) ar nr) := by unfold Hid; rw [hM.hnr]; exact hM.hr.far (Nat.le_succ _)
  have FarL : Hid (Far (w.heap.size + 1) al ns) := by unfold Hid; rw [hM.hns]; exact hM.hs.far (Nat.le_succ _)
  have HM := Hid.mk hM
  have HREC := Hid.mk hrec
  rcases hM.hbl with h0 | ⟨gb, ob, rfl, hbl⟩
  · omega
  have hcs : w.rangeAt gb (ob + k * 4) (B k).cells := hbl k hk
  rw [hB] at hcs
  obtain ⟨i0, i1, i2, i3⟩ := Is.at hcs
  have gi := lt_of_cell i0
  have lr := hM.lr
  have ls := hM.ls
  have hn := hM.hn
  have hR := hM.hR
  have k0 : (0 : Int) ≤ (k : Int) := by omega
  have k1 : (k : Int) < (n : Int) := by omega
  have k2 : decide ((n : Int) ≤ (k : Int)) = false := by simp; omega
  clear hcs hbl hrec
  subst hp
  obtain ⟨m, rfl⟩ : ∃ m : Nat, b = (m : Int) := ⟨b.toNat, by have := hok.jmp (by simp); simp at this; omega⟩
  have hj := hok.jmp (by simp)
  obtain ⟨ma, rfl⟩ : ∃ m : Nat, a = (m : Int) := ⟨a.toNat, by have := hok.tst (by simp); simp at this; omega⟩
  have hta := hok.tst (by simp)
  simp only at hj hta
  have a0 : (0 : Int) ≤ (ma : Int) := by omega
  have a1 : (ma : Int) < (nr : Int) := by omega
  obtain ⟨gr, orr, rfl, e1⟩ := hM.hr.at (i := ma) (by have := hM.hnr; omega)
  have ge := lt_of_cell e1
  have ge1 : gr < w.heap.size + 1 := by omega
  have ge2 : gr < w.heap.size + 1 + 1 := by omega
  by_cases hz : r.getD ma 0 = 0
  · have he : exec E B n (f + 1) k r s = exec E B n f m r s := by
      rw [exec, if_neg (by omega), hB]; dsimp only; rw [if_neg (by omega)]; rw [if_pos rfl, gt_nat, if_pos hz]; (try rfl)
    rw [he]
    rw [hz] at e1
    clear he hM hok hz hR hta hB
    go_enter Tryz.func42, Tryz.ntmps42
    go_wp2_with fail
    refine (HREC.out m r s (some ⟨gr, orr, none⟩) al cr cs _ (by omega) (HM.out.below (by go_grown))).mono ?_
    rintro e w9 ⟨ar', al', cr', cs', rfl, hr', hs', nr', ns', hb, hcp⟩
    have HCP : Hid (nr ≤ cr → nr ≤ cr') := Hid.mk (hcp)
    have HB := Hid.mk (below_then (w := w) (by go_grown) hb)
    have A1 := Hid.mk (blk_below (blk_alloc (blk_new1 w _ _) _) hb)
    have FR := Hid.mk (FarR.out.nw nr' (by simp))
    have FL := Hid.mk (FarL.out.nw ns' (by simp))
    have NR := Hid.mk (Nw.trans (Nw.refl w _) nr' (by simp; try omega))
    have NL := Hid.mk (Nw.trans (Nw.refl w _) ns' (by simp; try omega))
    have HR := Hid.mk hr'
    have HL := Hid.mk hs'
    have LN := Hid.mk (exec_len (E := E) (B := B) (n := n) f m r s)
    clear hr' hs' nr' ns' hb hcp
    generalize exec E B n f m r s = rr at *
    have x0 := blk_cell A1.out 0
    have y0 := blk_unfrozen A1.out 0
    have x1 := blk_cell A1.out 1
    have y1 := blk_unfrozen A1.out 1
    have x2 := blk_cell A1.out 2
    have y2 := blk_unfrozen A1.out 2
    have x3 := blk_cell A1.out 3
    have y3 := blk_unfrozen A1.out 3
    have x4 := blk_cell A1.out 4
    have y4 := blk_unfrozen A1.out 4
    have x5 := blk_cell A1.out 5
    have y5 := blk_unfrozen A1.out 5
    have x6 := blk_cell A1.out 6
    have y6 := blk_unfrozen A1.out 6
    simp only [List.getElem?_toArray, List.getElem?_cons_zero, List.getElem?_cons_succ] at x0 x1 x2 x3 x4 x5 x6
    go_wp2
    refine bodyPost_ret (v := .agg #[.slice ar' nr cr', .slice al' ns cs', .int .i64 E.tags, .int .i64 E.skills, .int .i64 E.q, .int .i64 (E.nQ : Int), .int .i64 rr.2.2]) (by simp [results, Tryz.results42, go_sem, x0, x1, x2, x3, x4, x5, x6]) rfl ?_
    clear x0 x1 x2 x3 x4 x5 x6 y0 y1 y2 y3 y4 y5 y6
    exact ⟨ar', al', cr', cs', rfl, seven HR.out (by rw [LN.out.1, ← HM.out.hnr]; exact FR.out), seven HL.out (by rw [LN.out.2, ← HM.out.hns]; exact FL.out), NR.out, NL.out, (((((((HB.out.setCell (p := ⟨w.heap.size + 1, 0, none⟩) (Nat.le_succ _) _).setCell (p := ⟨w.heap.size + 1, 1, none⟩) (Nat.le_succ _) _).setCell (p := ⟨w.heap.size + 1, 2, none⟩) (Nat.le_succ _) _).setCell (p := ⟨w.heap.size + 1, 3, none⟩) (Nat.le_succ _) _).setCell (p := ⟨w.heap.size + 1, 4, none⟩) (Nat.le_succ _) _).setCell (p := ⟨w.heap.size + 1, 5, none⟩) (Nat.le_succ _) _).setCell (p := ⟨w.heap.size + 1, 6, none⟩) (Nat.le_succ _) _), HCP.out⟩
  · have he : exec E B n (f + 1) k r s = exec E B n f (k + 1) r s := by
      rw [exec, if_neg (by omega), hB]; dsimp only; rw [if_neg (by omega)]; rw [if_pos rfl, gt_nat, if_neg hz]; (try rfl)
    rw [he]
    have hz' : (r.getD ma 0 == 0) = false := by simpa using hz
    have hz'' : (r.getD ma 0 != 0) = true := by simpa using hz
    clear he hM hok hz hR hta hB
    generalize r.getD ma 0 = A at *
    go_enter Tryz.func42, Tryz.ntmps42
    go_wp2_with fail
    refine (HREC.out (k + 1) r s (some ⟨gr, orr, none⟩) al cr cs _ (by omega) (HM.out.below (by go_grown))).mono ?_
    rintro e w9 ⟨ar', al', cr', cs', rfl, hr', hs', nr', ns', hb, hcp⟩
    have HCP : Hid (nr ≤ cr → nr ≤ cr') := Hid.mk (hcp)
    have HB := Hid.mk (below_then (w := w) (by go_grown) hb)
    have A1 := Hid.mk (blk_below (blk_alloc (blk_new1 w _ _) _) hb)
    have FR := Hid.mk (FarR.out.nw nr' (by simp))
    have FL := Hid.mk (FarL.out.nw ns' (by simp))
    have NR := Hid.mk (Nw.trans (Nw.refl w _) nr' (by simp; try omega))
    have NL := Hid.mk (Nw.trans (Nw.refl w _) ns' (by simp; try omega))
    have HR := Hid.mk hr'
    have HL := Hid.mk hs'
    have LN := Hid.mk (exec_len (E := E) (B := B) (n := n) f (k + 1) r s)
    clear hr' hs' nr' ns' hb hcp
    generalize exec E B n f (k + 1) r s = rr at *
    have x0 := blk_cell A1.out 0
    have y0 := blk_unfrozen A1.out 0
    have x1 := blk_cell A1.out 1
    have y1 := blk_unfrozen A1.out 1
    have x2 := blk_cell A1.out 2
    have y2 := blk_unfrozen A1.out 2
    have x3 := blk_cell A1.out 3
    have y3 := blk_unfrozen A1.out 3
    have x4 := blk_cell A1.out 4
    have y4 := blk_unfrozen A1.out 4
    have x5 := blk_cell A1.out 5
    have y5 := blk_unfrozen A1.out 5
    have x6 := blk_cell A1.out 6
    have y6 := blk_unfrozen A1.out 6
    simp only [List.getElem?_toArray, List.getElem?_cons_zero, List.getElem?_cons_succ] at x0 x1 x2 x3 x4 x5 x6
    go_wp2
    refine bodyPost_ret (v := .agg #[.slice ar' nr cr', .slice al' ns cs', .int .i64 E.tags, .int .i64 E.skills, .int .i64 E.q, .int .i64 (E.nQ : Int), .int .i64 rr.2.2]) (by simp [results, Tryz.results42, go_sem, x0, x1, x2, x3, x4, x5, x6]) rfl ?_
    clear x0 x1 x2 x3 x4 x5 x6 y0 y1 y2 y3 y4 y5 y6
    exact ⟨ar', al', cr', cs', rfl, seven HR.out (by rw [LN.out.1, ← HM.out.hnr]; exact FR.out), seven HL.out (by rw [LN.out.2, ← HM.out.hns]; exact FL.out), NR.out, NL.out, (((((((HB.out.setCell (p := ⟨w.heap.size + 1, 0, none⟩) (Nat.le_succ _) _).setCell (p := ⟨w.heap.size + 1, 1, none⟩) (Nat.le_succ _) _).setCell (p := ⟨w.heap.size + 1, 2, none⟩) (Nat.le_succ _) _).setCell (p := ⟨w.heap.size + 1, 3, none⟩) (Nat.le_succ _) _).setCell (p := ⟨w.heap.size + 1, 4, none⟩) (Nat.le_succ _) _).setCell (p := ⟨w.heap.size + 1, 5, none⟩) (Nat.le_succ _) _).setCell (p := ⟨w.heap.size + 1, 6, none⟩) (Nat.le_succ _) _), HCP.out⟩

set_option maxHeartbeats 3200000 in
set_option maxRecDepth 100000 in
theorem ex16 (E : En) (B : Nat → Is) (n : Nat) (bl : Option Addr) (cb : Nat) (R S : Int) (nr ns f : Nat) (hrec : Rec E B n bl cb R S nr ns f) (k : Nat) (r s : List Int) (ar al : Option Addr) (cr cs : Nat) (w : World) (hf : n - k ≤ f + 1) (hM : Mst w E B n bl R S ar al nr ns r s) (hk : k < n) (p a b c : Int) (hB : B k = ⟨p, a, b, c⟩) (hok : OkI R S k n ⟨p, a, b, c⟩) (hp : p = 16) :
    Calls Tryz.prog 42 #[.slice bl n cb, .int .i64 (k : Int), .agg #[.slice ar nr cr, .slice al ns cs, .int .i64 E.tags, .int .i64 E.skills, .int .i64 E.q, .int .i64 (E.nQ : Int), .int .i64 (-1)]] w (ExPost E nr ns cr ar al (exec E B n (f + 1) k r s) w) := by
  have FarR : Hid (Far (w.heap.size + 1) ar nr) := by unfold Hid; rw [hM.hnr]; exact hM.hr.far (Nat.le_succ _)
  have FarL : Hid (Far (w.heap.size + 1) al ns) := by unfold Hid; rw [hM.hns]; exact hM.hs.far (Nat.le_succ _)
  have HM := Hid.mk hM
  have HREC := Hid.mk hrec
  rcases hM.hbl with h0 | ⟨gb, ob, rfl, hbl⟩
  · omega
  have hcs : w.rangeAt gb (ob + k * 4) (B k).cells := hbl k hk
  rw [hB] at hcs
  obtain ⟨i0, i1, i2, i3⟩ := Is.at hcs
  have gi := lt_of_cell i0
  have lr := hM.lr
  have ls := hM.ls
  have hn := hM.hn
  have hR := hM.hR
  have k0 : (0 : Int) ≤ (k : Int) := by omega
  have k1 : (k : Int) < (n : Int) := by omega
  have k2 : decide ((n : Int) ≤ (k : Int)) = false := by simp; omega
  clear hcs hbl hrec
  subst hp
  obtain ⟨m, rfl⟩ : ∃ m : Nat, b = (m : Int) := ⟨b.toNat, by have := hok.jmp (by simp); simp at this; omega⟩
  have hj := hok.jmp (by simp)
  obtain ⟨ma, rfl⟩ : ∃ m : Nat, a = (m : Int) := ⟨a.toNat, by have := hok.tst (by simp); simp at this; omega⟩
  have hta := hok.tst (by simp)
  simp only at hj hta
  have a0 : (0 : Int) ≤ (ma : Int) := by omega
  have a1 : (ma : Int) < (nr : Int) := by omega
  obtain ⟨gr, orr, rfl, e1⟩ := hM.hr.at (i := ma) (by have := hM.hnr; omega)
  have ge := lt_of_cell e1
  have ge1 : gr < w.heap.size + 1 := by omega
  have ge2 : gr < w.heap.size + 1 + 1 := by omega
  by_cases hz : r.getD ma 0 = 0
  · have he : exec E B n (f + 1) k r s = exec E B n f (k + 1) r s := by
      rw [exec, if_neg (by omega), hB]; dsimp only; rw [if_neg (by omega)]; rw [if_neg (by omega)]; rw [if_pos rfl, gt_nat, if_pos hz]; (try rfl)
    rw [he]
    rw [hz] at e1
    clear he hM hok hz hR hta hB
    go_enter Tryz.func42, Tryz.ntmps42
    go_wp2_with fail
    refine (HREC.out (k + 1) r s (some ⟨gr, orr, none⟩) al cr cs _ (by omega) (HM.out.below (by go_grown))).mono ?_
    rintro e w9 ⟨ar', al', cr', cs', rfl, hr', hs', nr', ns', hb, hcp⟩
    have HCP : Hid (nr ≤ cr → nr ≤ cr') := Hid.mk (hcp)
    have HB := Hid.mk (below_then (w := w) (by go_grown) hb)
    have A1 := Hid.mk (blk_below (blk_alloc (blk_new1 w _ _) _) hb)
    have FR := Hid.mk (FarR.out.nw nr' (by simp))
    have FL := Hid.mk (FarL.out.nw ns' (by simp))
    have NR := Hid.mk (Nw.trans (Nw.refl w _) nr' (by simp; try omega))
    have NL := Hid.mk (Nw.trans (Nw.refl w _) ns' (by simp; try omega))
    have HR := Hid.mk hr'
    have HL := Hid.mk hs'
    have LN := Hid.mk (exec_len (E := E) (B := B) (n := n) f (k + 1) r s)
    clear hr' hs' nr' ns' hb hcp
    generalize exec E B n f (k + 1) r s = rr at *
    have x0 := blk_cell A1.out 0
    have y0 := blk_unfrozen A1.out 0
    have x1 := blk_cell A1.out 1
    have y1 := blk_unfrozen A1.out 1
    have x2 := blk_cell A1.out 2
    have y2 := blk_unfrozen A1.out 2
    have x3 := blk_cell A1.out 3
    have y3 := blk_unfrozen A1.out 3
    have x4 := blk_cell A1.out 4
    have y4 := blk_unfrozen A1.out 4
    have x5 := blk_cell A1.out 5
    have y5 := blk_unfrozen A1.out 5
    have x6 := blk_cell A1.out 6
    have y6 := blk_unfrozen A1.out 6
    simp only [List.getElem?_toArray, List.getElem?_cons_zero, List.getElem?_cons_succ] at x0 x1 x2 x3 x4 x5 x6
    go_wp2
    refine bodyPost_ret (v := .agg #[.slice ar' nr cr', .slice al' ns cs', .int .i64 E.tags, .int .i64 E.skills, .int .i64 E.q, .int .i64 (E.nQ : Int), .int .i64 rr.2.2]) (by simp [results, Tryz.results42, go_sem, x0, x1, x2, x3, x4, x5, x6]) rfl ?_
    clear x0 x1 x2 x3 x4 x5 x6 y0 y1 y2 y3 y4 y5 y6
    exact ⟨ar', al', cr', cs', rfl, seven HR.out (by rw [LN.out.1, ← HM.out.hnr]; exact FR.out), seven HL.out (by rw [LN.out.2, ← HM.out.hns]; exact FL.out), NR.out, NL.out, (((((((HB.out.setCell (p := ⟨w.heap.size + 1, 0, none⟩) (Nat.le_succ _) _).setCell (p := ⟨w.heap.size + 1, 1, none⟩) (Nat.le_succ _) _).setCell (p := ⟨w.heap.size + 1, 2, none⟩) (Nat.le_succ _) _).setCell (p := ⟨w.heap.size + 1, 3, none⟩) (Nat.le_succ _) _).setCell (p := ⟨w.heap.size + 1, 4, none⟩) (Nat.le_succ _) _).setCell (p := ⟨w.heap.size + 1, 5, none⟩) (Nat.le_succ _) _).setCell (p := ⟨w.heap.size + 1, 6, none⟩) (Nat.le_succ _) _), HCP.out⟩
  · have he : exec E B n (f + 1) k r s = exec E B n f m r s := by
      rw [exec, if_neg (by omega), hB]; dsimp only; rw [if_neg (by omega)]; rw [if_neg (by omega)]; rw [if_pos rfl, gt_nat, if_neg hz]; (try rfl)
    rw [he]
    have hz' : (r.getD ma 0 == 0) = false := by simpa using hz
    have hz'' : (r.getD ma 0 != 0) = true := by simpa using hz
    clear he hM hok hz hR hta hB
    generalize r.getD ma 0 = A at *
    go_enter Tryz.func42, Tryz.ntmps42
    go_wp2_with fail
    refine (HREC.out m r s (some ⟨gr, orr, none⟩) al cr cs _ (by omega) (HM.out.below (by go_grown))).mono ?_
    rintro e w9 ⟨ar', al', cr', cs', rfl, hr', hs', nr', ns', hb, hcp⟩
    have HCP : Hid (nr ≤ cr → nr ≤ cr') := Hid.mk (hcp)
    have HB := Hid.mk (below_then (w := w) (by go_grown) hb)
    have A1 := Hid.mk (blk_below (blk_alloc (blk_new1 w _ _) _) hb)
    have FR := Hid.mk (FarR.out.nw nr' (by simp))
    have FL := Hid.mk (FarL.out.nw ns' (by simp))
    have NR := Hid.mk (Nw.trans (Nw.refl w _) nr' (by simp; try omega))
    have NL := Hid.mk (Nw.trans (Nw.refl w _) ns' (by simp; try omega))
    have HR := Hid.mk hr'
    have HL := Hid.mk hs'
    have LN := Hid.mk (exec_len (E := E) (B := B) (n := n) f m r s)
    clear hr' hs' nr' ns' hb hcp
    generalize exec E B n f m r s = rr at *
    have x0 := blk_cell A1.out 0
    have y0 := blk_unfrozen A1.out 0
    have x1 := blk_cell A1.out 1
    have y1 := blk_unfrozen A1.out 1
    have x2 := blk_cell A1.out 2
    have y2 := blk_unfrozen A1.out 2
    have x3 := blk_cell A1.out 3
    have y3 := blk_unfrozen A1.out 3
    have x4 := blk_cell A1.out 4
    have y4 := blk_unfrozen A1.out 4
    have x5 := blk_cell A1.out 5
    have y5 := blk_unfrozen A1.out 5
    have x6 := blk_cell A1.out 6
    have y6 := blk_unfrozen A1.out 6
    simp only [List.getElem?_toArray, List.getElem?_cons_zero, List.getElem?_cons_succ] at x0 x1 x2 x3 x4 x5 x6
    go_wp2
    refine bodyPost_ret (v := .agg #[.slice ar' nr cr', .slice al' ns cs', .int .i64 E.tags, .int .i64 E.skills, .int .i64 E.q, .int .i64 (E.nQ : Int), .int .i64 rr.2.2]) (by simp [results, Tryz.results42, go_sem, x0, x1, x2, x3, x4, x5, x6]) rfl ?_
    clear x0 x1 x2 x3 x4 x5 x6 y0 y1 y2 y3 y4 y5 y6
    exact ⟨ar', al', cr', cs', rfl, seven HR.out (by rw [LN.out.1, ← HM.out.hnr]; exact FR.out), seven HL.out (by rw [LN.out.2, ← HM.out.hns]; exact FL.out), NR.out, NL.out, (((((((HB.out.setCell (p := ⟨w.heap.size + 1, 0, none⟩) (Nat.le_succ _) _).setCell (p := ⟨w.heap.size + 1, 1, none⟩) (Nat.le_succ _) _).setCell (p := ⟨w.heap.size + 1, 2, none⟩) (Nat.le_succ _) _).setCell (p := ⟨w.heap.size + 1, 3, none⟩) (Nat.le_succ _) _).setCell (p := ⟨w.heap.size + 1, 4, none⟩) (Nat.le_succ _) _).setCell (p := ⟨w.heap.size + 1, 5, none⟩) (Nat.le_succ _) _).setCell (p := ⟨w.heap.size + 1, 6, none⟩) (Nat.le_succ _) _), HCP.out⟩

end Go.Proofs.YtgooegcmgejfpaaGreatDoor.Mac
