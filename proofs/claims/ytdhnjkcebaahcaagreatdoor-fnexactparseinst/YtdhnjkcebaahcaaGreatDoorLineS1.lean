import Derived.Test.YtdhnjkcebaahcaaGreatDoorLineH
import Derived.RegionTactic
import Derived.Deep.RegionHeld3
import Derived.Deep.CutRange
namespace Go.Proofs.YtdhnjkcebaahcaaGreatDoor.Parse
open Go Go.RowKit Go.Proofs.YtdhnjkcebaahcaaGreatDoor.Mem Go.Proofs.YtdhnjkcebaahcaaGreatDoor.Valid
set_option linter.unusedVariables false
set_option linter.unusedSimpArgs false
attribute [local go_sem ↓] Go.wp_at_zero Go.wp_at_succ

set_option maxHeartbeats 1600000 in
set_option maxRecDepth 100000 in
theorem lineS1 (B : Nat) (a1 a2 a3 : Option Addr) (N1 N2 N3 c1 c2 c3 : Nat) (s : Acc) (p : Option Addr) (ln : List UInt8) (n c : Nat) (w : World) (h1 : N1 = s.V.length) (h2 : N2 = s.Q.length) (h3 : N3 = s.R.length)
    (hA : AccAt B w (.slice a1 N1 c1) (.slice a2 N2 c2) (.slice a3 N3 c3) s) (hB : B ≤ w.heap.size) (hn : n = ln.length) (hr : Rd w p ln) (hl : n ≤ 300000) (b1 : N1 ≤ 64) (b2 : N2 ≤ 1000) (b3 : N3 ≤ 4000) (hk0 : kindOf (fld (split 32 ln) 0) = 1) :
    Calls Tryz.prog 13 #[.agg #[.slice a1 N1 c1, .slice a2 N2 c2, .slice a3 N3 c3], .slice p n c] w fun e w' => ∃ v1 v2 v3, e = .returned (.tuple #[.int .i64 (lineF s ln).1, .agg #[v1, v2, v3]]) ∧ AccAt B w' v1 v2 v3 (lineF s ln).2 ∧ Below B w w' := by
  have HK0 := Hid.mk hk0
  clear hk0
  have HA := Hid.mk hA
  have HR := Hid.mk hr
  have HN := Hid.mk hn
  have H1 := Hid.mk h1
  have H2 := Hid.mk h2
  have H3 := Hid.mk h3
  clear hA hr hn h1 h2 h3
  go_enter Tryz.func13, Tryz.ntmps13
  go_wp2_with fail
  refine (splitS p ln n c 32 32 _ HN.out rfl (HR.out.below (below_alloc' (below_alloc' (Below.refl _ _) _) _)) (by omega)).mono ?_
  rintro e w1 ⟨fp, fc, rfl, hfl, hb1⟩
  have BX := Hid.mk (blk_below (blk_alloc (blk_new w _) _) hb1)
  have RX := Hid.mk (blk_below (blk_new1 w _ _) hb1)
  have HB1 := Hid.mk (below_then (w := w) (below_alloc' (below_alloc' (Below.refl _ _) _) _) hb1)
  have HF : Hid (lineF s ln = lineK s (split 32 ln) (kindOf (fld (split 32 ln) 0))) := rfl
  have m0 := split_pos 32 ln
  have m1 := split_len 32 ln
  rw [← HN.out] at m1
  obtain ⟨L, hL⟩ : ∃ L, L = split 32 ln := ⟨_, rfl⟩
  rw [← hL] at hfl HF HK0 m0 m1 ⊢
  obtain ⟨M, hM⟩ : ∃ M, M = L.length := ⟨_, rfl⟩
  rw [← hM] at m0 m1 ⊢
  obtain ⟨g, p0, n0, d0, f0, rfl, x0, l0, s0, r0⟩ := flds_at hfl (k := 0) (by omega)
  have HL := Hid.mk hfl
  have HLen : Hid (∀ k, (L.getD k []).length ≤ 300000) := fun k => by rw [hL]; exact Nat.le_trans (split_each 32 ln k) (by rw [← HN.out]; exact hl)
  have HM := Hid.mk hM
  have e0 : fld L 0 = f0 := s0.2
  rw [e0] at HF HK0
  have S0 := Hid.mk s0.1
  have R0 := Hid.mk r0
  clear hb1 hfl hL hM s0 r0 e0
  go_wp2_with fail
  refine (kindS p0 f0 n0 d0 _ S0.out R0.out).mono ?_
  rintro e w2 ⟨rfl, rfl⟩
  clear x0
  rw [HK0.out] at HF ⊢
  by_cases n3 : 0 < N3
  · have HV : Hid (lineF s ln = (4, s)) := by unfold Hid; rw [HF.out]; unfold lineK; rw [if_neg (by decide), if_pos (Or.inl ⟨by rw [← H3.out]; exact n3, by decide⟩)]
    have n3' : (0 : Int) < (N3 : Int) := by omega
    have x0 := blk_cell BX.out 0
    have x1 := blk_cell BX.out 1
    have x2 := blk_cell BX.out 2
    have y0 := blk_cell RX.out 0
    have y1 := blk_cell RX.out 1
    have y2 := blk_cell RX.out 2
    have z0 := blk_unfrozen RX.out 0
    have z1 := blk_unfrozen RX.out 1
    have z2 := blk_unfrozen RX.out 2
    simp only [List.getElem?_toArray, List.getElem?_cons_zero, List.getElem?_cons_succ] at x0 x1 x2 y0 y1 y2
    go_wp2_with fail
    go_region
    obtain ⟨q0, q1, q2⟩ := set3 y0 y1 y2 (.slice a1 N1 c1) (.slice a2 N2 c2) (.slice a3 N3 c3)
    have HBZ := Hid.mk (set3_below (Nat.le_succ w.heap.size) HB1.out (.slice a1 N1 c1) (.slice a2 N2 c2) (.slice a3 N3 c3))
    obtain ⟨Z, hZ⟩ : ∃ Z, Z = (((w2.setCell ⟨w.heap.size + 1, 0, none⟩ (.slice a1 N1 c1)).setCell ⟨w.heap.size + 1, 1, none⟩ (.slice a2 N2 c2)).setCell ⟨w.heap.size + 1, 2, none⟩ (.slice a3 N3 c3)).drew := ⟨_, rfl⟩
    rw [← hZ] at q0 q1 q2 HBZ ⊢
    clear hZ x0 x1 x2 y0 y1 y2 z0 z1 z2
    go_wp2
    refine bodyPost_ret (by simp [results, Tryz.results13, go_sem, q0, q1, q2]; try rfl) rfl ?_
    rw [HV.out]
    exact ⟨_, _, _, rfl, HA.out.below HBZ.out, HBZ.out.mono hB⟩
  · have n3' : decide ((0 : Int) < (N3 : Int)) = false := by simp; omega
    by_cases n2 : 0 < N2
    · have HV : Hid (lineF s ln = (4, s)) := by unfold Hid; rw [HF.out]; unfold lineK; rw [if_neg (by decide), if_pos (Or.inr ⟨by rw [← H2.out]; exact n2, by decide⟩)]
      have n2' : (0 : Int) < (N2 : Int) := by omega
      have x0 := blk_cell BX.out 0
      have x1 := blk_cell BX.out 1
      have x2 := blk_cell BX.out 2
      have y0 := blk_cell RX.out 0
      have y1 := blk_cell RX.out 1
      have y2 := blk_cell RX.out 2
      have z0 := blk_unfrozen RX.out 0
      have z1 := blk_unfrozen RX.out 1
      have z2 := blk_unfrozen RX.out 2
      simp only [List.getElem?_toArray, List.getElem?_cons_zero, List.getElem?_cons_succ] at x0 x1 x2 y0 y1 y2
      go_wp2_with fail
      go_region
      obtain ⟨q0, q1, q2⟩ := set3 y0 y1 y2 (.slice a1 N1 c1) (.slice a2 N2 c2) (.slice a3 N3 c3)
      have HBZ := Hid.mk (set3_below (Nat.le_succ w.heap.size) HB1.out (.slice a1 N1 c1) (.slice a2 N2 c2) (.slice a3 N3 c3))
      obtain ⟨Z, hZ⟩ : ∃ Z, Z = (((w2.setCell ⟨w.heap.size + 1, 0, none⟩ (.slice a1 N1 c1)).setCell ⟨w.heap.size + 1, 1, none⟩ (.slice a2 N2 c2)).setCell ⟨w.heap.size + 1, 2, none⟩ (.slice a3 N3 c3)).drew := ⟨_, rfl⟩
      rw [← hZ] at q0 q1 q2 HBZ ⊢
      clear hZ x0 x1 x2 y0 y1 y2 z0 z1 z2
      go_wp2
      refine bodyPost_ret (by simp [results, Tryz.results13, go_sem, q0, q1, q2]; try rfl) rfl ?_
      rw [HV.out]
      exact ⟨_, _, _, rfl, HA.out.below HBZ.out, HBZ.out.mono hB⟩
    · have n2' : decide ((0 : Int) < (N2 : Int)) = false := by simp; omega
      by_cases hM : M = 8
      · subst hM
        have HF6 : Hid (okFlds 1 L = false → lineF s ln = (6, s)) := fun h => by rw [HF.out]; unfold lineK; rw [if_neg (by decide), if_neg (by rw [← H3.out, ← H2.out]; omega), if_neg (by rw [← HM.out]; decide), if_pos h]
        have HF7 : Hid (okFlds 1 L = true → lineF s ln = addV s (vehOf L)) := fun h => by rw [HF.out]; unfold lineK; rw [if_neg (by decide), if_neg (by rw [← H3.out, ← H2.out]; omega), if_neg (by rw [← HM.out]; decide), if_neg (by rw [h]; decide)]; rfl
        clear HF
        have x0 := blk_cell BX.out 0
        have x1 := blk_cell BX.out 1
        have x2 := blk_cell BX.out 2
        simp only [List.getElem?_toArray, List.getElem?_cons_zero, List.getElem?_cons_succ] at x0 x1 x2
        go_wp2
        clear x0 x1 x2
        go_loopw [9] (fun i wr => (∃ m, wr = w2.drewN m) ∧ ∃ j : Nat, j + 1 ≤ 8 ∧ i = .int .i64 ((j : Int) + 1) ∧ Hid (allB j (fun i => okFld 1 L (i + 1)) = true)) (fun i _ => 8 - (intOf i).toNat)
        case atStart => exact ⟨⟨0, rfl⟩, 0, by omega, rfl, rfl⟩
        case round =>
          obtain ⟨⟨m, hwl⟩, j, hj, rfl, hall⟩ := hrel
          obtain ⟨wl, hwl2⟩ : ∃ wl, wl = wr := ⟨_, rfl⟩
          rw [← hwl2] at hwl ⊢
          clear hwl2
          have HWL := Hid.mk hwl
          have HBm : Hid (Below w.heap.size w wl) := by rw [hwl]; exact below_drewN' HB1.out m
          have BX := Hid.mk (heapD hwl BX.out)
          have RX := Hid.mk (heapD hwl RX.out)
          have HLl : Hid (Flds wl (some ⟨g, 0, none⟩) L) := by rw [hwl]; exact HL.out.below (below_drewN' (Below.refl _ _) m)
          clear hwl
          by_cases hlt : j + 1 < 8
          · have hjl : j + 1 < L.length := by rw [← HM.out]; omega
            obtain ⟨g', pj, nj, cj, fj, ej, xj, lj, sj, rj⟩ := flds_at HLl.out (k := j + 1) hjl
            obtain rfl : g = g' := by injection ej with ej; injection ej
            clear ej
            have hnj : nj ≤ 300000 := by rw [sj.1, ← sj.2]; exact HLen.out (j + 1)
            have Sj := Hid.mk sj.1
            have Rj := Hid.mk rj
            clear rj
            have j0 : (0 : Int) ≤ (j : Int) + 1 := by omega
            have j1 : (j : Int) + 1 < 8 := by omega
            by_cases hj2 : j = 1
            · have hj2' : ((j : Int) + 1 == 2) = true := by simp; omega
              have hjH := Hid.mk hj2
              clear hj2
              have hq : okFld 1 L (j + 1) = isTags fj := by unfold okFld; rw [if_pos ⟨by decide, by have := hjH.out; omega⟩]; rw [show fld L (j + 1) = fj from sj.2]
              clear sj
              cases hv : isTags fj with
              | true =>
                have ha : Hid (allB (j + 1) (fun i => okFld 1 L (i + 1)) = true) := allB_succ hall.out (by rw [hq, hv])
                clear hq
                go_wp2_with fail
                with_reducible refine (isTagsS pj fj nj cj _ Sj.out lj Rj.out (by omega)).mono ?_
                rintro e w3 ⟨rfl, m3, rfl⟩
                rw [hv]
                have hm3 : ∃ q, wl.drewN m3 = w2.drewN q := by rw [HWL.out]; exact drewN2 _ _ _
                go_wp2
                exact ⟨⟨hm3, j + 1, by omega, by go_num, ha⟩, by simp [intOf]; omega⟩
              | false =>
                have HV := Hid.mk (HF6.out (allB_false (k := j) (by rw [← HM.out]; omega) (by rw [hq, hv])))
                clear hq
                go_wp2_with fail
                with_reducible refine (isTagsS pj fj nj cj _ Sj.out lj Rj.out (by omega)).mono ?_
                rintro e w3 ⟨rfl, m3, rfl⟩
                rw [hv]
                obtain ⟨wz, hwz⟩ : ∃ wz, wz = wl.drewN m3 := ⟨_, rfl⟩
                rw [← hwz]
                have BX := Hid.mk (heapD hwz BX.out)
                have RX := Hid.mk (heapD hwz RX.out)
                have HBz : Hid (Below w.heap.size w wz) := by rw [hwz]; exact below_drewN' HBm.out m3
                clear hwz
                have x0 := blk_cell BX.out 0
                have x1 := blk_cell BX.out 1
                have x2 := blk_cell BX.out 2
                have y0 := blk_cell RX.out 0
                have y1 := blk_cell RX.out 1
                have y2 := blk_cell RX.out 2
                have z0 := blk_unfrozen RX.out 0
                have z1 := blk_unfrozen RX.out 1
                have z2 := blk_unfrozen RX.out 2
                simp only [List.getElem?_toArray, List.getElem?_cons_zero, List.getElem?_cons_succ] at x0 x1 x2 y0 y1 y2
                go_wp2_with fail
                go_region
                obtain ⟨q0, q1, q2⟩ := set3 y0 y1 y2 (.slice a1 N1 c1) (.slice a2 N2 c2) (.slice a3 N3 c3)
                have HBZ := Hid.mk (set3_below (Nat.le_succ w.heap.size) HBz.out (.slice a1 N1 c1) (.slice a2 N2 c2) (.slice a3 N3 c3))
                obtain ⟨Z, hZ⟩ : ∃ Z, Z = (((wz.setCell ⟨w.heap.size + 1, 0, none⟩ (.slice a1 N1 c1)).setCell ⟨w.heap.size + 1, 1, none⟩ (.slice a2 N2 c2)).setCell ⟨w.heap.size + 1, 2, none⟩ (.slice a3 N3 c3)).drew := ⟨_, rfl⟩
                rw [← hZ] at q0 q1 q2 HBZ ⊢
                clear hZ x0 x1 x2 y0 y1 y2 z0 z1 z2
                go_wp2
                refine bodyPost_ret (by simp [results, Tryz.results13, go_sem, q0, q1, q2]; try rfl) rfl ?_
                rw [HV.out]
                exact ⟨_, _, _, rfl, HA.out.below HBZ.out, HBZ.out.mono hB⟩
            · have hj2' : ((j : Int) + 1 == 2) = false := by simp; omega
              have hq : okFld 1 L (j + 1) = isNum fj := by unfold okFld; rw [if_neg (by omega)]; rw [show fld L (j + 1) = fj from sj.2]
              clear sj
              cases hv : isNum fj with
              | true =>
                have ha : Hid (allB (j + 1) (fun i => okFld 1 L (i + 1)) = true) := allB_succ hall.out (by rw [hq, hv])
                clear hq
                go_wp2_with fail
                with_reducible refine (isNumS pj fj nj cj _ Sj.out lj Rj.out (by omega)).mono ?_
                rintro e w3 ⟨rfl, hw3⟩
                rw [hv, hw3]
                have hm3 : ∃ q, wl = w2.drewN q := ⟨m, HWL.out⟩
                go_wp2
                exact ⟨⟨hm3, j + 1, by omega, by go_num, ha⟩, by simp [intOf]; omega⟩
              | false =>
                have HV := Hid.mk (HF6.out (allB_false (k := j) (by rw [← HM.out]; omega) (by rw [hq, hv])))
                clear hq
                go_wp2_with fail
                with_reducible refine (isNumS pj fj nj cj _ Sj.out lj Rj.out (by omega)).mono ?_
                rintro e w3 ⟨rfl, hw3⟩
                rw [hv, hw3]
                obtain ⟨wz, hwz⟩ : ∃ wz, wz = wl := ⟨_, rfl⟩
                rw [← hwz]
                have BX := Hid.mk (heapE hwz BX.out)
                have RX := Hid.mk (heapE hwz RX.out)
                have HBz : Hid (Below w.heap.size w wz) := by rw [hwz]; exact HBm
                clear hwz
                have x0 := blk_cell BX.out 0
                have x1 := blk_cell BX.out 1
                have x2 := blk_cell BX.out 2
                have y0 := blk_cell RX.out 0
                have y1 := blk_cell RX.out 1
                have y2 := blk_cell RX.out 2
                have z0 := blk_unfrozen RX.out 0
                have z1 := blk_unfrozen RX.out 1
                have z2 := blk_unfrozen RX.out 2
                simp only [List.getElem?_toArray, List.getElem?_cons_zero, List.getElem?_cons_succ] at x0 x1 x2 y0 y1 y2
                go_wp2_with fail
                go_region
                obtain ⟨q0, q1, q2⟩ := set3 y0 y1 y2 (.slice a1 N1 c1) (.slice a2 N2 c2) (.slice a3 N3 c3)
                have HBZ := Hid.mk (set3_below (Nat.le_succ w.heap.size) HBz.out (.slice a1 N1 c1) (.slice a2 N2 c2) (.slice a3 N3 c3))
                obtain ⟨Z, hZ⟩ : ∃ Z, Z = (((wz.setCell ⟨w.heap.size + 1, 0, none⟩ (.slice a1 N1 c1)).setCell ⟨w.heap.size + 1, 1, none⟩ (.slice a2 N2 c2)).setCell ⟨w.heap.size + 1, 2, none⟩ (.slice a3 N3 c3)).drew := ⟨_, rfl⟩
                rw [← hZ] at q0 q1 q2 HBZ ⊢
                clear hZ x0 x1 x2 y0 y1 y2 z0 z1 z2
                go_wp2
                refine bodyPost_ret (by simp [results, Tryz.results13, go_sem, q0, q1, q2]; try rfl) rfl ?_
                rw [HV.out]
                exact ⟨_, _, _, rfl, HA.out.below HBZ.out, HBZ.out.mono hB⟩
          · obtain rfl : j = 7 := by omega
            have HG := Hid.mk (HF7.out (by unfold okFlds; rw [← HM.out]; exact hall.out))
            have hok : ∀ i, i < 7 → okFld 1 L (i + 1) = true := allB_all hall.out
            have ok1 := hok 0 (by omega)
            unfold okFld at ok1
            rw [if_neg (by omega)] at ok1
            have ok2 := hok 1 (by omega)
            unfold okFld at ok2
            rw [if_pos ⟨by decide, by decide⟩] at ok2
            have NUMS : Hid (∀ k, 3 ≤ k → k < 8 → isNum (L.getD k []) = true) := fun k h1 h2 => by
              have := hok (k - 1) (by omega)
              rw [show k - 1 + 1 = k by omega] at this
              unfold okFld at this
              rw [if_neg (by omega)] at this
              exact this
            clear hok hlt
            obtain ⟨g', p1, n1, c1', f1, ej, x1, l1, s1, r1⟩ := flds_at HLl.out (k := 1) (by rw [← HM.out]; omega)
            obtain rfl : g = g' := by injection ej with ej; injection ej
            clear ej
            have e1 : fld L 1 = f1 := s1.2
            rw [e1] at ok1
            have S1 := Hid.mk s1.1
            have R1 := Hid.mk r1
            have OK1 := Hid.mk ok1
            have E1 := Hid.mk e1
            have hn1 : n1 ≤ 300000 := by rw [s1.1, ← s1.2]; exact HLen.out 1
            clear s1 r1 ok1 e1
            obtain ⟨g', p2, n2, c2', f2, ej, x2, l2, s2, r2⟩ := flds_at HLl.out (k := 2) (by rw [← HM.out]; omega)
            obtain rfl : g = g' := by injection ej with ej; injection ej
            clear ej
            have e2 : fld L 2 = f2 := s2.2
            rw [e2] at ok2
            have S2 := Hid.mk s2.1
            have R2 := Hid.mk r2
            have OK2 := Hid.mk ok2
            have E2 := Hid.mk e2
            have hn2 : n2 ≤ 300000 := by rw [s2.1, ← s2.2]; exact HLen.out 2
            clear s2 r2 ok2 e2
            obtain ⟨v, hv⟩ : ∃ v, v = vehOf L := ⟨_, rfl⟩
            have A1 : Hid (num f1 = v.a) := by rw [hv, ← E1.out]; rfl
            have A2 : Hid (tagsV f2 f2.length = v.b) := by rw [hv, ← E2.out]; rfl
            have A3 : Hid (num (L.getD 3 []) = v.x) := by rw [hv]; rfl
            have A4 : Hid (num (L.getD 4 []) = v.y) := by rw [hv]; rfl
            have A5 : Hid (num (L.getD 5 []) = v.o) := by rw [hv]; rfl
            have A6 : Hid (num (L.getD 6 []) = v.c) := by rw [hv]; rfl
            have A7 : Hid (num (L.getD 7 []) = v.h) := by rw [hv]; rfl
            rw [← hv] at HG
            clear hv
            have dx1 : wl.drew.cell? ⟨g, 1, none⟩ = some (.slice p1 n1 c1') := x1
            have dx2 : wl.drew.cell? ⟨g, 2, none⟩ = some (.slice p2 n2 c2') := x2
            have z1 : (1 : Int) < 8 := by omega
            have hgl : g < wl.heap.size := lt_of_cell x1
            go_upto_region 23 with fail
            go_cut [10] from 78 to 88 (fun s10 wx => ∃ bv, s10 = .pointer (some ⟨bv, 0, none⟩) ∧ Hid (wx.heap[bv]? = some (.cells #[.int .i64 v.a, .int .i64 v.b, .int .i64 v.x, .int .i64 v.y, .int .i64 v.o, .int .i64 v.c, .int .i64 v.h] 58)) ∧ Hid (Below wl.heap.size wl wx) ∧ wl.heap.size ≤ bv)
            case first =>
              have HBw : Hid (Below wl.heap.size wl wl.drew) := (Below.refl _ _).drew
              refine wp_region_held_drew (S := (fun w' => w'.cell? ⟨g, 1, none⟩ = some (.slice p1 n1 c1') ∧ w'.cell? ⟨g, 2, none⟩ = some (.slice p2 n2 c2'))) (by kernel_rfl) ?_ (fun hHeld => ?_)
              · exact ⟨dx1, dx2⟩
              refine wpAnyH_take (i := 0) (v := ?_) rfl (by kernel_rfl) (by kernel_rfl) (by kernel_rfl) (fun _ _ _ h => h) (Or.inl ⟨by rfl, ?_⟩) (by assumption) ?_
              rotate_left
              · intro w hSw; (try dsimp only at hSw); go_simp; (try with_reducible rfl)
              rotate_left
              simp only [Act.put, List.setIfInBounds_toArray, List.set_cons_zero, List.set_cons_succ, List.getElem_toArray, List.getElem_cons_zero, List.getElem_cons_succ]
              refine wpAnyH_take (i := 1) (v := ?_) rfl (by kernel_rfl) (by kernel_rfl) (by kernel_rfl) (fun _ _ _ h => h) (Or.inl ⟨by rfl, ?_⟩) (by assumption) ?_
              rotate_left
              · intro w hSw; (try dsimp only at hSw); go_simp; (try with_reducible rfl)
              rotate_left
              simp only [Act.put, List.setIfInBounds_toArray, List.set_cons_zero, List.set_cons_succ, List.getElem_toArray, List.getElem_cons_zero, List.getElem_cons_succ]
              refine wpAnyH_take (i := 2) (v := ?_) rfl (by kernel_rfl) (by kernel_rfl) (by kernel_rfl) (fun _ _ _ h => h) (Or.inl ⟨by rfl, ?_⟩) (by assumption) ?_
              rotate_left
              · intro w hSw; (try dsimp only at hSw); go_simp; (try with_reducible rfl)
              rotate_left
              simp only [Act.put, List.setIfInBounds_toArray, List.set_cons_zero, List.set_cons_succ, List.getElem_toArray, List.getElem_cons_zero, List.getElem_cons_succ]
              refine wpAnyH_take (i := 4) (v := ?_) rfl (by kernel_rfl) (by kernel_rfl) (by kernel_rfl) (fun _ _ _ h => h) (Or.inl ⟨by rfl, ?_⟩) (by assumption) ?_
              rotate_left
              · intro w hSw; (try dsimp only at hSw); go_simp; (try with_reducible rfl)
              rotate_left
              simp only [Act.put, List.setIfInBounds_toArray, List.set_cons_zero, List.set_cons_succ, List.getElem_toArray, List.getElem_cons_zero, List.getElem_cons_succ]
              refine wpAnyH_take (i := 5) (v := ?_) rfl (by kernel_rfl) (by kernel_rfl) (by kernel_rfl) (fun _ _ _ h => h) (Or.inl ⟨by rfl, ?_⟩) (by assumption) ?_
              rotate_left
              · intro w hSw; (try dsimp only at hSw); go_simp; (try with_reducible rfl)
              rotate_left
              simp only [Act.put, List.setIfInBounds_toArray, List.set_cons_zero, List.set_cons_succ, List.getElem_toArray, List.getElem_cons_zero, List.getElem_cons_succ]
              refine wpAnyH_take (i := 6) (v := ?_) rfl (by kernel_rfl) (by kernel_rfl) (by kernel_rfl) (fun _ _ _ h => h) (Or.inl ⟨by rfl, ?_⟩) (by assumption) ?_
              rotate_left
              · intro w hSw; (try dsimp only at hSw); go_simp; (try with_reducible rfl)
              rotate_left
              simp only [Act.put, List.setIfInBounds_toArray, List.set_cons_zero, List.set_cons_succ, List.getElem_toArray, List.getElem_cons_zero, List.getElem_cons_succ]
              refine wpAnyH_take (i := 8) (v := ?_) rfl (by kernel_rfl) (by kernel_rfl) (by kernel_rfl) (fun _ _ _ h => h) (Or.inl ⟨by rfl, ?_⟩) (by assumption) ?_
              rotate_left
              · intro w hSw; (try dsimp only at hSw); go_simp; (try with_reducible rfl)
              rotate_left
              simp only [Act.put, List.setIfInBounds_toArray, List.set_cons_zero, List.set_cons_succ, List.getElem_toArray, List.getElem_cons_zero, List.getElem_cons_succ]
              refine wpAnyH_ready (rs := [3, 11]) (by kernel_rfl) (by simp) ?_
              refine AllReadyH.cons rfl (fun K hK => ?_) ?_
              · go_simp
                refine (numS p1 f1 n1 c1' _ S1.out l1 (Rd.below R1.out HBw.out) OK1.out).mono ?_
                rintro e w3 ⟨rfl, hbc⟩
                rw [A1.out]
                have HBw := Hid.mk (below_then HBw.out hbc)
                (try have VB := Hid.mk (blk_below VB.out hbc))
                go_wp2_with fail
                refine hK.out _ _ ?_ (fun hHeld => ?_)
                · (try dsimp only); first | with_reducible exact hHeld | exact keep2 hHeld hbc
                clear hK K
                (try simp only [Act.put, List.setIfInBounds_toArray, List.set_cons_zero, List.set_cons_succ, List.getElem_toArray, List.getElem_cons_zero, List.getElem_cons_succ])
                refine wpAnyH_ready (rs := [7, 11]) (by kernel_rfl) (by simp) ?_
                refine AllReadyH.cons rfl (fun K hK => ?_) ?_
                · go_simp
                  refine (tagsS p2 f2 n2 c2' _ S2.out l2 (Rd.below R2.out HBw.out) (by omega) OK2.out).mono ?_
                  rintro e w4 ⟨rfl, hw4⟩
                  have hbc := below_of_eq hw4
                  clear hw4
                  rw [A2.out]
                  have HBw := Hid.mk (below_then HBw.out hbc)
                  (try have VB := Hid.mk (blk_below VB.out hbc))
                  go_wp2_with fail
                  refine hK.out _ _ ?_ (fun hHeld => ?_)
                  · (try dsimp only); first | with_reducible exact hHeld | exact keep2 hHeld hbc
                  clear hK K
                  (try simp only [Act.put, List.setIfInBounds_toArray, List.set_cons_zero, List.set_cons_succ, List.getElem_toArray, List.getElem_cons_zero, List.getElem_cons_succ])
                  refine wpAnyH_ready (rs := [9, 11]) (by kernel_rfl) (by simp) ?_
                  refine AllReadyH.cons rfl (fun K hK => ?_) ?_
                  · go_simp
                    refine (place3 (some ⟨g, 0, none⟩) L 8 fc _ HM.out (Flds.below HLl.out HBw.out) (by omega) NUMS.out).mono ?_
                    rintro e w5 ⟨rfl, hbc⟩
                    rw [A3.out, A4.out, A5.out, A6.out, A7.out]
                    have HBw := Hid.mk (below_then HBw.out hbc)
                    (try have VB := Hid.mk (blk_below VB.out hbc))
                    go_wp2_with fail
                    refine hK.out _ _ ?_ (fun hHeld => ?_)
                    · (try dsimp only); first | with_reducible exact hHeld | exact keep2 hHeld hbc
                    clear hK K
                    (try simp only [Act.put, List.setIfInBounds_toArray, List.set_cons_zero, List.set_cons_succ, List.getElem_toArray, List.getElem_cons_zero, List.getElem_cons_succ])
                    refine wpAnyH_ready (rs := [10, 11]) (by kernel_rfl) (by simp) ?_
                    refine AllReadyH.cons rfl (fun K hK => ?_) ?_
                    · go_simp
                      refine hK.out _ _ ?_ (fun hHeld => ?_)
                      · (try dsimp only); first | with_reducible exact hHeld | exact keep2 hHeld hbc
                      clear hK K
                      (try simp only [Act.put, List.setIfInBounds_toArray, List.set_cons_zero, List.set_cons_succ, List.getElem_toArray, List.getElem_cons_zero, List.getElem_cons_succ])
                      refine wpAnyH_ready (rs := [11]) (by kernel_rfl) (by simp) ?_
                      refine AllReadyH.cons rfl (fun K hK => ?_) ?_
                      · go_simp
                        have HBp := HBw
                        obtain ⟨HBa, VBa, hbv⟩ := allocFacts HBw.out (.cells #[.int .i64 0, .int .i64 0, .int .i64 0, .int .i64 0, .int .i64 0, .int .i64 0, .int .i64 0] 58)
                        (try simp only [size_drew] at VBa hbv)
                        have HBw := Hid.mk HBa
                        have VB := Hid.mk VBa
                        have hgb := Nat.ne_of_lt (Nat.lt_of_lt_of_le hgl hbv)
                        clear HBa VBa
                        refine hK.out _ _ ?_ (fun hHeld => ?_)
                        · (try dsimp only); exact keep2al hHeld _
                        clear hK K
                        (try simp only [Act.put, List.setIfInBounds_toArray, List.set_cons_zero, List.set_cons_succ, List.getElem_toArray, List.getElem_cons_zero, List.getElem_cons_succ])
                        refine wpAnyH_ready (rs := [12]) (by kernel_rfl) (by simp) ?_
                        refine AllReadyH.cons rfl (fun K hK => ?_) ?_
                        · have t0 := blk_cell VB.out 0
                          have t1 := blk_cell VB.out 1
                          have t2 := blk_cell VB.out 2
                          have t3 := blk_cell VB.out 3
                          have t4 := blk_cell VB.out 4
                          have t5 := blk_cell VB.out 5
                          have t6 := blk_cell VB.out 6
                          have u0' := blk_unfrozen VB.out 0
                          have u1' := blk_unfrozen VB.out 1
                          have u2' := blk_unfrozen VB.out 2
                          have u3' := blk_unfrozen VB.out 3
                          have u4' := blk_unfrozen VB.out 4
                          have u5' := blk_unfrozen VB.out 5
                          have u6' := blk_unfrozen VB.out 6
                          simp only [List.getElem?_toArray, List.getElem?_cons_zero, List.getElem?_cons_succ] at t0 t1 t2 t3 t4 t5 t6
                          go_simp
                          refine hK.out _ _ ?_ (fun hHeld => ?_)
                          · (try dsimp only); exact keep2al (keep2 ⟨x1, x2⟩ HBp.out) _
                          clear hK K
                          (try simp only [Act.put, List.setIfInBounds_toArray, List.set_cons_zero, List.set_cons_succ, List.getElem_toArray, List.getElem_cons_zero, List.getElem_cons_succ])
                          refine wpAnyH_done (by kernel_rfl) ?_ _
                          go_wp2_with fail
                          go_meet
                          exact ⟨_, rfl, blk_new _ _, below_alloc' HBp.out _, HBp.out.size⟩
                        exact AllReadyH.nil
                      exact AllReadyH.nil
                    refine AllReadyH.cons rfl (fun K hK => ?_) ?_
                    · go_simp
                      have HBp := HBw
                      obtain ⟨HBa, VBa, hbv⟩ := allocFacts HBw.out (.cells #[.int .i64 0, .int .i64 0, .int .i64 0, .int .i64 0, .int .i64 0, .int .i64 0, .int .i64 0] 58)
                      (try simp only [size_drew] at VBa hbv)
                      have HBw := Hid.mk HBa
                      have VB := Hid.mk VBa
                      have hgb := Nat.ne_of_lt (Nat.lt_of_lt_of_le hgl hbv)
                      clear HBa VBa
                      refine hK.out _ _ ?_ (fun hHeld => ?_)
                      · (try dsimp only); exact keep2al hHeld _
                      clear hK K
                      (try simp only [Act.put, List.setIfInBounds_toArray, List.set_cons_zero, List.set_cons_succ, List.getElem_toArray, List.getElem_cons_zero, List.getElem_cons_succ])
                      refine wpAnyH_ready (rs := [10]) (by kernel_rfl) (by simp) ?_
                      refine AllReadyH.cons rfl (fun K hK => ?_) ?_
                      · go_simp
                        refine hK.out _ _ ?_ (fun hHeld => ?_)
                        · (try dsimp only); first | with_reducible exact hHeld | exact keep2 hHeld hbc
                        clear hK K
                        (try simp only [Act.put, List.setIfInBounds_toArray, List.set_cons_zero, List.set_cons_succ, List.getElem_toArray, List.getElem_cons_zero, List.getElem_cons_succ])
                        refine wpAnyH_ready (rs := [12]) (by kernel_rfl) (by simp) ?_
                        refine AllReadyH.cons rfl (fun K hK => ?_) ?_
                        · have t0 := blk_cell VB.out 0
                          have t1 := blk_cell VB.out 1
                          have t2 := blk_cell VB.out 2
                          have t3 := blk_cell VB.out 3
                          have t4 := blk_cell VB.out 4
                          have t5 := blk_cell VB.out 5
                          have t6 := blk_cell VB.out 6
                          have u0' := blk_unfrozen VB.out 0
                          have u1' := blk_unfrozen VB.out 1
                          have u2' := blk_unfrozen VB.out 2
                          have u3' := blk_unfrozen VB.out 3
                          have u4' := blk_unfrozen VB.out 4
                          have u5' := blk_unfrozen VB.out 5
                          have u6' := blk_unfrozen VB.out 6
                          simp only [List.getElem?_toArray, List.getElem?_cons_zero, List.getElem?_cons_succ] at t0 t1 t2 t3 t4 t5 t6
                          go_simp
                          refine hK.out _ _ ?_ (fun hHeld => ?_)
                          · (try dsimp only); exact keep2al (keep2 ⟨x1, x2⟩ HBp.out) _
                          clear hK K
                          (try simp only [Act.put, List.setIfInBounds_toArray, List.set_cons_zero, List.set_cons_succ, List.getElem_toArray, List.getElem_cons_zero, List.getElem_cons_succ])
                          refine wpAnyH_done (by kernel_rfl) ?_ _
                          go_wp2_with fail
                          go_meet
                          exact ⟨_, rfl, blk_new _ _, below_alloc' HBp.out _, HBp.out.size⟩
                        exact AllReadyH.nil
                      exact AllReadyH.nil
                    exact AllReadyH.nil
                  refine AllReadyH.cons rfl (fun K hK => ?_) ?_
                  · go_simp
                    have HBp := HBw
                    obtain ⟨HBa, VBa, hbv⟩ := allocFacts HBw.out (.cells #[.int .i64 0, .int .i64 0, .int .i64 0, .int .i64 0, .int .i64 0, .int .i64 0, .int .i64 0] 58)
                    (try simp only [size_drew] at VBa hbv)
                    have HBw := Hid.mk HBa
                    have VB := Hid.mk VBa
                    have hgb := Nat.ne_of_lt (Nat.lt_of_lt_of_le hgl hbv)
                    clear HBa VBa
                    refine hK.out _ _ ?_ (fun hHeld => ?_)
                    · (try dsimp only); exact keep2al hHeld _
                    clear hK K
                    (try simp only [Act.put, List.setIfInBounds_toArray, List.set_cons_zero, List.set_cons_succ, List.getElem_toArray, List.getElem_cons_zero, List.getElem_cons_succ])
                    refine wpAnyH_ready (rs := [9]) (by kernel_rfl) (by simp) ?_
                    refine AllReadyH.cons rfl (fun K hK => ?_) ?_
                    · go_simp
                      refine (place3 (some ⟨g, 0, none⟩) L 8 fc _ HM.out (Flds.below HLl.out HBw.out) (by omega) NUMS.out).mono ?_
                      rintro e w5 ⟨rfl, hbc⟩
                      rw [A3.out, A4.out, A5.out, A6.out, A7.out]
                      have HBw := Hid.mk (below_then HBw.out hbc)
                      (try have VB := Hid.mk (blk_below VB.out hbc))
                      go_wp2_with fail
                      refine hK.out _ _ ?_ (fun hHeld => ?_)
                      · (try dsimp only); first | with_reducible exact hHeld | exact keep2 hHeld hbc
                      clear hK K
                      (try simp only [Act.put, List.setIfInBounds_toArray, List.set_cons_zero, List.set_cons_succ, List.getElem_toArray, List.getElem_cons_zero, List.getElem_cons_succ])
                      refine wpAnyH_ready (rs := [10]) (by kernel_rfl) (by simp) ?_
                      refine AllReadyH.cons rfl (fun K hK => ?_) ?_
                      · go_simp
                        refine hK.out _ _ ?_ (fun hHeld => ?_)
                        · (try dsimp only); first | with_reducible exact hHeld | exact keep2 hHeld hbc
                        clear hK K
                        (try simp only [Act.put, List.setIfInBounds_toArray, List.set_cons_zero, List.set_cons_succ, List.getElem_toArray, List.getElem_cons_zero, List.getElem_cons_succ])
                        refine wpAnyH_ready (rs := [12]) (by kernel_rfl) (by simp) ?_
                        refine AllReadyH.cons rfl (fun K hK => ?_) ?_
                        · have t0 := blk_cell VB.out 0
                          have t1 := blk_cell VB.out 1
                          have t2 := blk_cell VB.out 2
                          have t3 := blk_cell VB.out 3
                          have t4 := blk_cell VB.out 4
                          have t5 := blk_cell VB.out 5
                          have t6 := blk_cell VB.out 6
                          have u0' := blk_unfrozen VB.out 0
                          have u1' := blk_unfrozen VB.out 1
                          have u2' := blk_unfrozen VB.out 2
                          have u3' := blk_unfrozen VB.out 3
                          have u4' := blk_unfrozen VB.out 4
                          have u5' := blk_unfrozen VB.out 5
                          have u6' := blk_unfrozen VB.out 6
                          simp only [List.getElem?_toArray, List.getElem?_cons_zero, List.getElem?_cons_succ] at t0 t1 t2 t3 t4 t5 t6
                          go_simp
                          refine hK.out _ _ ?_ (fun hHeld => ?_)
                          · (try dsimp only); exact keep2s hgb (keep2s hgb (keep2s hgb (keep2s hgb (keep2s hgb (keep2s hgb (keep2s hgb (hHeld)))))))
                          clear hK K
                          (try simp only [Act.put, List.setIfInBounds_toArray, List.set_cons_zero, List.set_cons_succ, List.getElem_toArray, List.getElem_cons_zero, List.getElem_cons_succ])
                          refine wpAnyH_done (by kernel_rfl) ?_ _
                          have VBs := sets_blk VB.out [.int .i64 v.a, .int .i64 v.b, .int .i64 v.x, .int .i64 v.y, .int .i64 v.o, .int .i64 v.c, .int .i64 v.h] rfl
                          have HBs := Below.setCells' _ hbv [.int .i64 v.a, .int .i64 v.b, .int .i64 v.x, .int .i64 v.y, .int .i64 v.o, .int .i64 v.c, .int .i64 v.h] 0 _ HBw.out
                          go_wp2_with fail
                          go_meet
                          exact ⟨_, rfl, VBs, HBs, hbv⟩
                        exact AllReadyH.nil
                      exact AllReadyH.nil
                    exact AllReadyH.nil
                  exact AllReadyH.nil
                refine AllReadyH.cons rfl (fun K hK => ?_) ?_
                · go_simp
                  have HBp := HBw
                  obtain ⟨HBa, VBa, hbv⟩ := allocFacts HBw.out (.cells #[.int .i64 0, .int .i64 0, .int .i64 0, .int .i64 0, .int .i64 0, .int .i64 0, .int .i64 0] 58)
                  (try simp only [size_drew] at VBa hbv)
                  have HBw := Hid.mk HBa
                  have VB := Hid.mk VBa
                  have hgb := Nat.ne_of_lt (Nat.lt_of_lt_of_le hgl hbv)
                  clear HBa VBa
                  refine hK.out _ _ ?_ (fun hHeld => ?_)
                  · (try dsimp only); exact keep2al hHeld _
                  clear hK K
                  (try simp only [Act.put, List.setIfInBounds_toArray, List.set_cons_zero, List.set_cons_succ, List.getElem_toArray, List.getElem_cons_zero, List.getElem_cons_succ])
                  refine wpAnyH_ready (rs := [7]) (by kernel_rfl) (by simp) ?_
                  refine AllReadyH.cons rfl (fun K hK => ?_) ?_
                  · go_simp
                    refine (tagsS p2 f2 n2 c2' _ S2.out l2 (Rd.below R2.out HBw.out) (by omega) OK2.out).mono ?_
                    rintro e w4 ⟨rfl, hw4⟩
                    have hbc := below_of_eq hw4
                    clear hw4
                    rw [A2.out]
                    have HBw := Hid.mk (below_then HBw.out hbc)
                    (try have VB := Hid.mk (blk_below VB.out hbc))
                    go_wp2_with fail
                    refine hK.out _ _ ?_ (fun hHeld => ?_)
                    · (try dsimp only); first | with_reducible exact hHeld | exact keep2 hHeld hbc
                    clear hK K
                    (try simp only [Act.put, List.setIfInBounds_toArray, List.set_cons_zero, List.set_cons_succ, List.getElem_toArray, List.getElem_cons_zero, List.getElem_cons_succ])
                    refine wpAnyH_ready (rs := [9]) (by kernel_rfl) (by simp) ?_
                    refine AllReadyH.cons rfl (fun K hK => ?_) ?_
                    · go_simp
                      refine (place3 (some ⟨g, 0, none⟩) L 8 fc _ HM.out (Flds.below HLl.out HBw.out) (by omega) NUMS.out).mono ?_
                      rintro e w5 ⟨rfl, hbc⟩
                      rw [A3.out, A4.out, A5.out, A6.out, A7.out]
                      have HBw := Hid.mk (below_then HBw.out hbc)
                      (try have VB := Hid.mk (blk_below VB.out hbc))
                      go_wp2_with fail
                      refine hK.out _ _ ?_ (fun hHeld => ?_)
                      · (try dsimp only); first | with_reducible exact hHeld | exact keep2 hHeld hbc
                      clear hK K
                      (try simp only [Act.put, List.setIfInBounds_toArray, List.set_cons_zero, List.set_cons_succ, List.getElem_toArray, List.getElem_cons_zero, List.getElem_cons_succ])
                      refine wpAnyH_ready (rs := [10]) (by kernel_rfl) (by simp) ?_
                      refine AllReadyH.cons rfl (fun K hK => ?_) ?_
                      · go_simp
                        refine hK.out _ _ ?_ (fun hHeld => ?_)
                        · (try dsimp only); first | with_reducible exact hHeld | exact keep2 hHeld hbc
                        clear hK K
                        (try simp only [Act.put, List.setIfInBounds_toArray, List.set_cons_zero, List.set_cons_succ, List.getElem_toArray, List.getElem_cons_zero, List.getElem_cons_succ])
                        refine wpAnyH_ready (rs := [12]) (by kernel_rfl) (by simp) ?_
                        refine AllReadyH.cons rfl (fun K hK => ?_) ?_
                        · have t0 := blk_cell VB.out 0
                          have t1 := blk_cell VB.out 1
                          have t2 := blk_cell VB.out 2
                          have t3 := blk_cell VB.out 3
                          have t4 := blk_cell VB.out 4
                          have t5 := blk_cell VB.out 5
                          have t6 := blk_cell VB.out 6
                          have u0' := blk_unfrozen VB.out 0
                          have u1' := blk_unfrozen VB.out 1
                          have u2' := blk_unfrozen VB.out 2
                          have u3' := blk_unfrozen VB.out 3
                          have u4' := blk_unfrozen VB.out 4
                          have u5' := blk_unfrozen VB.out 5
                          have u6' := blk_unfrozen VB.out 6
                          simp only [List.getElem?_toArray, List.getElem?_cons_zero, List.getElem?_cons_succ] at t0 t1 t2 t3 t4 t5 t6
                          go_simp
                          refine hK.out _ _ ?_ (fun hHeld => ?_)
                          · (try dsimp only); exact keep2s hgb (keep2s hgb (keep2s hgb (keep2s hgb (keep2s hgb (keep2s hgb (keep2s hgb (hHeld)))))))
                          clear hK K
                          (try simp only [Act.put, List.setIfInBounds_toArray, List.set_cons_zero, List.set_cons_succ, List.getElem_toArray, List.getElem_cons_zero, List.getElem_cons_succ])
                          refine wpAnyH_done (by kernel_rfl) ?_ _
                          have VBs := sets_blk VB.out [.int .i64 v.a, .int .i64 v.b, .int .i64 v.x, .int .i64 v.y, .int .i64 v.o, .int .i64 v.c, .int .i64 v.h] rfl
                          have HBs := Below.setCells' _ hbv [.int .i64 v.a, .int .i64 v.b, .int .i64 v.x, .int .i64 v.y, .int .i64 v.o, .int .i64 v.c, .int .i64 v.h] 0 _ HBw.out
                          go_wp2_with fail
                          go_meet
                          exact ⟨_, rfl, VBs, HBs, hbv⟩
                        exact AllReadyH.nil
                      exact AllReadyH.nil
                    exact AllReadyH.nil
                  exact AllReadyH.nil
                exact AllReadyH.nil
              refine AllReadyH.cons rfl (fun K hK => ?_) ?_
              · go_simp
                have HBp := HBw
                obtain ⟨HBa, VBa, hbv⟩ := allocFacts HBw.out (.cells #[.int .i64 0, .int .i64 0, .int .i64 0, .int .i64 0, .int .i64 0, .int .i64 0, .int .i64 0] 58)
                (try simp only [size_drew] at VBa hbv)
                have HBw := Hid.mk HBa
                have VB := Hid.mk VBa
                have hgb := Nat.ne_of_lt (Nat.lt_of_lt_of_le hgl hbv)
                clear HBa VBa
                refine hK.out _ _ ?_ (fun hHeld => ?_)
                · (try dsimp only); exact keep2al hHeld _
                clear hK K
                (try simp only [Act.put, List.setIfInBounds_toArray, List.set_cons_zero, List.set_cons_succ, List.getElem_toArray, List.getElem_cons_zero, List.getElem_cons_succ])
                refine wpAnyH_ready (rs := [3]) (by kernel_rfl) (by simp) ?_
                refine AllReadyH.cons rfl (fun K hK => ?_) ?_
                · go_simp
                  refine (numS p1 f1 n1 c1' _ S1.out l1 (Rd.below R1.out HBw.out) OK1.out).mono ?_
                  rintro e w3 ⟨rfl, hbc⟩
                  rw [A1.out]
                  have HBw := Hid.mk (below_then HBw.out hbc)
                  (try have VB := Hid.mk (blk_below VB.out hbc))
                  go_wp2_with fail
                  refine hK.out _ _ ?_ (fun hHeld => ?_)
                  · (try dsimp only); first | with_reducible exact hHeld | exact keep2 hHeld hbc
                  clear hK K
                  (try simp only [Act.put, List.setIfInBounds_toArray, List.set_cons_zero, List.set_cons_succ, List.getElem_toArray, List.getElem_cons_zero, List.getElem_cons_succ])
                  refine wpAnyH_ready (rs := [7]) (by kernel_rfl) (by simp) ?_
                  refine AllReadyH.cons rfl (fun K hK => ?_) ?_
                  · go_simp
                    refine (tagsS p2 f2 n2 c2' _ S2.out l2 (Rd.below R2.out HBw.out) (by omega) OK2.out).mono ?_
                    rintro e w4 ⟨rfl, hw4⟩
                    have hbc := below_of_eq hw4
                    clear hw4
                    rw [A2.out]
                    have HBw := Hid.mk (below_then HBw.out hbc)
                    (try have VB := Hid.mk (blk_below VB.out hbc))
                    go_wp2_with fail
                    refine hK.out _ _ ?_ (fun hHeld => ?_)
                    · (try dsimp only); first | with_reducible exact hHeld | exact keep2 hHeld hbc
                    clear hK K
                    (try simp only [Act.put, List.setIfInBounds_toArray, List.set_cons_zero, List.set_cons_succ, List.getElem_toArray, List.getElem_cons_zero, List.getElem_cons_succ])
                    refine wpAnyH_ready (rs := [9]) (by kernel_rfl) (by simp) ?_
                    refine AllReadyH.cons rfl (fun K hK => ?_) ?_
                    · go_simp
                      refine (place3 (some ⟨g, 0, none⟩) L 8 fc _ HM.out (Flds.below HLl.out HBw.out) (by omega) NUMS.out).mono ?_
                      rintro e w5 ⟨rfl, hbc⟩
                      rw [A3.out, A4.out, A5.out, A6.out, A7.out]
                      have HBw := Hid.mk (below_then HBw.out hbc)
                      (try have VB := Hid.mk (blk_below VB.out hbc))
                      go_wp2_with fail
                      refine hK.out _ _ ?_ (fun hHeld => ?_)
                      · (try dsimp only); first | with_reducible exact hHeld | exact keep2 hHeld hbc
                      clear hK K
                      (try simp only [Act.put, List.setIfInBounds_toArray, List.set_cons_zero, List.set_cons_succ, List.getElem_toArray, List.getElem_cons_zero, List.getElem_cons_succ])
                      refine wpAnyH_ready (rs := [10]) (by kernel_rfl) (by simp) ?_
                      refine AllReadyH.cons rfl (fun K hK => ?_) ?_
                      · go_simp
                        refine hK.out _ _ ?_ (fun hHeld => ?_)
                        · (try dsimp only); first | with_reducible exact hHeld | exact keep2 hHeld hbc
                        clear hK K
                        (try simp only [Act.put, List.setIfInBounds_toArray, List.set_cons_zero, List.set_cons_succ, List.getElem_toArray, List.getElem_cons_zero, List.getElem_cons_succ])
                        refine wpAnyH_ready (rs := [12]) (by kernel_rfl) (by simp) ?_
                        refine AllReadyH.cons rfl (fun K hK => ?_) ?_
                        · have t0 := blk_cell VB.out 0
                          have t1 := blk_cell VB.out 1
                          have t2 := blk_cell VB.out 2
                          have t3 := blk_cell VB.out 3
                          have t4 := blk_cell VB.out 4
                          have t5 := blk_cell VB.out 5
                          have t6 := blk_cell VB.out 6
                          have u0' := blk_unfrozen VB.out 0
                          have u1' := blk_unfrozen VB.out 1
                          have u2' := blk_unfrozen VB.out 2
                          have u3' := blk_unfrozen VB.out 3
                          have u4' := blk_unfrozen VB.out 4
                          have u5' := blk_unfrozen VB.out 5
                          have u6' := blk_unfrozen VB.out 6
                          simp only [List.getElem?_toArray, List.getElem?_cons_zero, List.getElem?_cons_succ] at t0 t1 t2 t3 t4 t5 t6
                          go_simp
                          refine hK.out _ _ ?_ (fun hHeld => ?_)
                          · (try dsimp only); exact keep2s hgb (keep2s hgb (keep2s hgb (keep2s hgb (keep2s hgb (keep2s hgb (keep2s hgb (hHeld)))))))
                          clear hK K
                          (try simp only [Act.put, List.setIfInBounds_toArray, List.set_cons_zero, List.set_cons_succ, List.getElem_toArray, List.getElem_cons_zero, List.getElem_cons_succ])
                          refine wpAnyH_done (by kernel_rfl) ?_ _
                          have VBs := sets_blk VB.out [.int .i64 v.a, .int .i64 v.b, .int .i64 v.x, .int .i64 v.y, .int .i64 v.o, .int .i64 v.c, .int .i64 v.h] rfl
                          have HBs := Below.setCells' _ hbv [.int .i64 v.a, .int .i64 v.b, .int .i64 v.x, .int .i64 v.y, .int .i64 v.o, .int .i64 v.c, .int .i64 v.h] 0 _ HBw.out
                          go_wp2_with fail
                          go_meet
                          exact ⟨_, rfl, VBs, HBs, hbv⟩
                        exact AllReadyH.nil
                      exact AllReadyH.nil
                    exact AllReadyH.nil
                  exact AllReadyH.nil
                exact AllReadyH.nil
              exact AllReadyH.nil

            case rest =>
              obtain ⟨bv, hs10, VB, hbw, hbv⟩ := hcut
              rw [hs10]
              have BX := Hid.mk (blk_below BX.out hbw.out)
              have RX := Hid.mk (blk_below RX.out hbw.out)
              have HB5 := Hid.mk (below_then HBm.out hbw.out)
              clear hs10 hbw
              have v0 := blk_cell VB.out 0
              have v1 := blk_cell VB.out 1
              have v2 := blk_cell VB.out 2
              have v3 := blk_cell VB.out 3
              have v4 := blk_cell VB.out 4
              have v5 := blk_cell VB.out 5
              have v6 := blk_cell VB.out 6
              simp only [List.getElem?_toArray, List.getElem?_cons_zero, List.getElem?_cons_succ] at v0 v1 v2 v3 v4 v5 v6
              go_wp2_with fail
              clear v0 v1 v2 v3 v4 v5 v6
              refine (vehS v.a v.b v.x v.y v.o v.c v.h _).mono ?_
              rintro e w6 ⟨rfl, hb6⟩
              have HB6 := Hid.mk (below_then HB5.out hb6)
              have BX := Hid.mk (blk_below BX.out hb6)
              have RX := Hid.mk (blk_below RX.out hb6)
              have VB := Hid.mk (blk_below VB.out hb6)
              clear hb6
              cases hg : gVeh v.a v.b v.x v.y v.o v.c v.h with
              | false =>
                have HV : Hid (lineF s ln = (7, s)) := by unfold Hid; rw [HG.out]; unfold addV; rw [if_pos hg]
                have x0 := blk_cell BX.out 0
                have x1 := blk_cell BX.out 1
                have x2 := blk_cell BX.out 2
                have y0 := blk_cell RX.out 0
                have y1 := blk_cell RX.out 1
                have y2 := blk_cell RX.out 2
                have z0 := blk_unfrozen RX.out 0
                have z1 := blk_unfrozen RX.out 1
                have z2 := blk_unfrozen RX.out 2
                simp only [List.getElem?_toArray, List.getElem?_cons_zero, List.getElem?_cons_succ] at x0 x1 x2 y0 y1 y2
                go_wp2_with fail
                go_region
                obtain ⟨q0, q1, q2⟩ := set3 y0 y1 y2 (.slice a1 N1 c1) (.slice a2 N2 c2) (.slice a3 N3 c3)
                have HBZ := Hid.mk (set3_below (Nat.le_succ w.heap.size) HB6.out (.slice a1 N1 c1) (.slice a2 N2 c2) (.slice a3 N3 c3))
                obtain ⟨Z, hZ⟩ : ∃ Z, Z = (((w6.setCell ⟨w.heap.size + 1, 0, none⟩ (.slice a1 N1 c1)).setCell ⟨w.heap.size + 1, 1, none⟩ (.slice a2 N2 c2)).setCell ⟨w.heap.size + 1, 2, none⟩ (.slice a3 N3 c3)).drew := ⟨_, rfl⟩
                rw [← hZ] at q0 q1 q2 HBZ ⊢
                clear hZ x0 x1 x2 y0 y1 y2 z0 z1 z2
                go_wp2
                refine bodyPost_ret (by simp [results, Tryz.results13, go_sem, q0, q1, q2]; try rfl) rfl ?_
                rw [HV.out]
                exact ⟨_, _, _, rfl, HA.out.below HBZ.out, HBZ.out.mono hB⟩
              | true =>
                by_cases hmx : N1 = 64
                · have HV : Hid (lineF s ln = (9, s)) := by unfold Hid; rw [HG.out]; unfold addV; rw [if_neg (by rw [hg]; decide), if_pos (by rw [← H1.out]; exact hmx)]
                  have hmx' : ((N1 : Int) == 64) = true := by simp; omega
                  have hmxH := Hid.mk hmx
                  clear hmx
                  have x0 := blk_cell BX.out 0
                  have x1 := blk_cell BX.out 1
                  have x2 := blk_cell BX.out 2
                  have y0 := blk_cell RX.out 0
                  have y1 := blk_cell RX.out 1
                  have y2 := blk_cell RX.out 2
                  have z0 := blk_unfrozen RX.out 0
                  have z1 := blk_unfrozen RX.out 1
                  have z2 := blk_unfrozen RX.out 2
                  simp only [List.getElem?_toArray, List.getElem?_cons_zero, List.getElem?_cons_succ] at x0 x1 x2 y0 y1 y2
                  go_wp2_with fail
                  go_region
                  obtain ⟨q0, q1, q2⟩ := set3 y0 y1 y2 (.slice a1 N1 c1) (.slice a2 N2 c2) (.slice a3 N3 c3)
                  have HBZ := Hid.mk (set3_below (Nat.le_succ w.heap.size) HB6.out (.slice a1 N1 c1) (.slice a2 N2 c2) (.slice a3 N3 c3))
                  obtain ⟨Z, hZ⟩ : ∃ Z, Z = (((w6.setCell ⟨w.heap.size + 1, 0, none⟩ (.slice a1 N1 c1)).setCell ⟨w.heap.size + 1, 1, none⟩ (.slice a2 N2 c2)).setCell ⟨w.heap.size + 1, 2, none⟩ (.slice a3 N3 c3)).drew := ⟨_, rfl⟩
                  rw [← hZ] at q0 q1 q2 HBZ ⊢
                  clear hZ x0 x1 x2 y0 y1 y2 z0 z1 z2
                  go_wp2
                  refine bodyPost_ret (by simp [results, Tryz.results13, go_sem, q0, q1, q2]; try rfl) rfl ?_
                  rw [HV.out]
                  exact ⟨_, _, _, rfl, HA.out.below HBZ.out, HBZ.out.mono hB⟩
                · have HV : Hid (lineF s ln = (0, { s with V := s.V ++ [v] })) := by unfold Hid; rw [HG.out]; unfold addV; rw [if_neg (by rw [hg]; decide), if_neg (by rw [← H1.out]; exact hmx)]
                  have hmx' : ((N1 : Int) == 64) = false := by simp; omega
                  have HA6 := Hid.mk (HA.out.below HB6.out)
                  have hsz := HB6.out.size
                  have hrow0 : Hid (w6.ownsRow B 58 7 (.slice a1 N1 c1) N1 (s.V.flatMap Veh.cells)) := by rw [H1.out]; have := HA6.out.v; rw [← H1.out] at this ⊢; exact this
                  obtain ⟨i0, hi, hz0, hz1, hz2⟩ := info_parts info1
                  have v0 := blk_cell VB.out 0
                  have v1 := blk_cell VB.out 1
                  have v2 := blk_cell VB.out 2
                  have v3 := blk_cell VB.out 3
                  have v4 := blk_cell VB.out 4
                  have v5 := blk_cell VB.out 5
                  have v6 := blk_cell VB.out 6
                  have x0 := blk_cell BX.out 0
                  have x1 := blk_cell BX.out 1
                  have x2 := blk_cell BX.out 2
                  simp only [List.getElem?_toArray, List.getElem?_cons_zero, List.getElem?_cons_succ] at v0 v1 v2 v3 v4 v5 v6 x0 x1 x2
                  go_wp2_with (at_builtin; refine wpList_append_own _ rfl _ _ 23 rfl B 58 i0 (.agg #[.int .i64 0, .int .i64 0, .int .i64 0, .int .i64 0, .int .i64 0, .int .i64 0, .int .i64 0]) 7 56 Tryz.underlying23 hi hz0 hz1 hz2 rfl (by decide) _ _ _ rfl (hrow0.out.alloc _) ⟨w6.heap.size, 0, none⟩ 1 1 v.cells rfl rfl (news_at w6 v.cells 58) (by intro u hu; simp only [Veh.cells, List.mem_cons, List.not_mem_nil, or_false] at hu; rcases hu with rfl | rfl | rfl | rfl | rfl | rfl | rfl <;> rfl) (by unfold maxLen; omega) (by omega) (by simp; omega) ?_)
                  intro vn w7 hown7 hgrow _
                  clear v0 v1 v2 v3 v4 v5 v6 x0 x1 x2
                  have BX9 := grown_other hgrow (hrow0.out.alloc _) (blk_alloc BX.out _) (by decide)
                  have RX9 := grown_other hgrow (hrow0.out.alloc _) (blk_alloc RX.out _) (by decide)
                  have hq9 := row_grown ((HA6.out.q).alloc _) hgrow (hrow0.out.alloc _) (by decide)
                  have hr9 := row_grown ((HA6.out.r).alloc _) hgrow (hrow0.out.alloc _) (by decide)
                  have hb7 : Below B w w7 := ((HB6.out.mono hB).alloc (by omega) _).grown hgrow (by simp; omega) (fun k hk => (hrow0.out.lt k hk).1)
                  have hrow9 : w7.ownsRow B 58 7 vn (s.V ++ [v]).length ((s.V ++ [v]).flatMap Veh.cells) := by
                    rw [List.length_append, List.length_singleton, List.flatMap_append, ← H1.out]
                    simpa using hown7
                  obtain ⟨an, cn, hvn, -⟩ := row_shape hown7
                  subst hvn
                  have HB9 : Hid (Below B w (w7.setCell ⟨w.heap.size, 0, none⟩ (.slice an (N1 + 1) cn))) := hb7.setCell (p := ⟨w.heap.size, 0, none⟩) hB _
                  have HA9 : Hid (AccAt B (w7.setCell ⟨w.heap.size, 0, none⟩ (.slice an (N1 + 1) cn)) (Value.slice an (N1 + 1) cn) (Value.slice a2 N2 c2) (Value.slice a3 N3 c3) { s with V := s.V ++ [v] }) := ⟨row_set hrow9 BX9 (by decide), row_set hq9 BX9 (by decide), row_set hr9 BX9 (by decide)⟩
                  have BXs := blk_set BX9 0 (.slice an (N1 + 1) cn)
                  have RXs := blk_set_other RX9 (p := ⟨w.heap.size, 0, none⟩) (Nat.succ_ne_self w.heap.size) (.slice an (N1 + 1) cn)
                  have xs0 := blk_cell BX9 0
                  have xs1 := blk_cell BX9 1
                  have xs2 := blk_cell BX9 2
                  have zs0 := blk_unfrozen BX9 0
                  simp only [List.getElem?_toArray, List.getElem?_cons_zero, List.getElem?_cons_succ] at xs0 xs1 xs2
                  have HBXs := Hid.mk BXs
                  have HRXs := Hid.mk RXs
                  clear hgrow hown7 hrow9 hq9 hr9 hb7 BX9 RX9 BXs RXs
                  refine Hid.out ?_
                  refine Lib.hid ?_
                  go_wp2_with fail
                  obtain ⟨w8, hw8⟩ : ∃ w8, w8 = w7.setCell ⟨w.heap.size, 0, none⟩ (.slice an (N1 + 1) cn) := ⟨_, rfl⟩
                  rw [← hw8] at HB9 HA9 HBXs HRXs ⊢
                  have BX : Hid (w8.heap[w.heap.size]? = some (.cells #[Value.slice an (N1 + 1) cn, Value.slice a2 N2 c2, Value.slice a3 N3 c3] 27)) := HBXs
                  have RX := HRXs
                  clear hw8 HBXs HRXs xs0 xs1 xs2 zs0
                  have x0 := blk_cell BX.out 0
                  have x1 := blk_cell BX.out 1
                  have x2 := blk_cell BX.out 2
                  have y0 := blk_cell RX.out 0
                  have y1 := blk_cell RX.out 1
                  have y2 := blk_cell RX.out 2
                  have z0 := blk_unfrozen RX.out 0
                  have z1 := blk_unfrozen RX.out 1
                  have z2 := blk_unfrozen RX.out 2
                  simp only [List.getElem?_toArray, List.getElem?_cons_zero, List.getElem?_cons_succ] at x0 x1 x2 y0 y1 y2
                  go_wp2_with fail
                  go_region
                  obtain ⟨q0, q1, q2⟩ := set3 y0 y1 y2 (Value.slice an (N1 + 1) cn) (Value.slice a2 N2 c2) (Value.slice a3 N3 c3)
                  have HBZ := Hid.mk (set3_below (B := B) (b := w.heap.size + 1) (by omega) HB9.out (Value.slice an (N1 + 1) cn) (Value.slice a2 N2 c2) (Value.slice a3 N3 c3))
                  have HAZ := Hid.mk (HA9.out.set3 RX.out (Value.slice an (N1 + 1) cn) (Value.slice a2 N2 c2) (Value.slice a3 N3 c3))
                  obtain ⟨Z, hZ⟩ : ∃ Z, Z = (((w8.setCell ⟨w.heap.size + 1, 0, none⟩ (Value.slice an (N1 + 1) cn)).setCell ⟨w.heap.size + 1, 1, none⟩ (Value.slice a2 N2 c2)).setCell ⟨w.heap.size + 1, 2, none⟩ (Value.slice a3 N3 c3)).drew := ⟨_, rfl⟩
                  rw [← hZ] at q0 q1 q2 HBZ HAZ ⊢
                  clear hZ x0 x1 x2 y0 y1 y2 z0 z1 z2
                  go_wp2
                  refine bodyPost_ret (by simp [results, Tryz.results13, go_sem, q0, q1, q2]; try rfl) rfl ?_
                  rw [HV.out]
                  exact ⟨_, _, _, rfl, HAZ.out, HBZ.out⟩
      · have HV : Hid (lineF s ln = (5, s)) := by unfold Hid; rw [HF.out]; unfold lineK; rw [if_neg (by decide), if_neg (by rw [← H3.out, ← H2.out]; omega), if_pos (by rw [← HM.out]; exact hM)]
        have hM' : ((M : Int) == 8) = false := by simp; omega
        have x0 := blk_cell BX.out 0
        have x1 := blk_cell BX.out 1
        have x2 := blk_cell BX.out 2
        have y0 := blk_cell RX.out 0
        have y1 := blk_cell RX.out 1
        have y2 := blk_cell RX.out 2
        have z0 := blk_unfrozen RX.out 0
        have z1 := blk_unfrozen RX.out 1
        have z2 := blk_unfrozen RX.out 2
        simp only [List.getElem?_toArray, List.getElem?_cons_zero, List.getElem?_cons_succ] at x0 x1 x2 y0 y1 y2
        go_wp2_with fail
        go_region
        obtain ⟨q0, q1, q2⟩ := set3 y0 y1 y2 (.slice a1 N1 c1) (.slice a2 N2 c2) (.slice a3 N3 c3)
        have HBZ := Hid.mk (set3_below (Nat.le_succ w.heap.size) HB1.out (.slice a1 N1 c1) (.slice a2 N2 c2) (.slice a3 N3 c3))
        obtain ⟨Z, hZ⟩ : ∃ Z, Z = (((w2.setCell ⟨w.heap.size + 1, 0, none⟩ (.slice a1 N1 c1)).setCell ⟨w.heap.size + 1, 1, none⟩ (.slice a2 N2 c2)).setCell ⟨w.heap.size + 1, 2, none⟩ (.slice a3 N3 c3)).drew := ⟨_, rfl⟩
        rw [← hZ] at q0 q1 q2 HBZ ⊢
        clear hZ x0 x1 x2 y0 y1 y2 z0 z1 z2
        go_wp2
        refine bodyPost_ret (by simp [results, Tryz.results13, go_sem, q0, q1, q2]; try rfl) rfl ?_
        rw [HV.out]
        exact ⟨_, _, _, rfl, HA.out.below HBZ.out, HBZ.out.mono hB⟩
end Go.Proofs.YtdhnjkcebaahcaaGreatDoor.Parse
