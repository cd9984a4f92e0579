import Derived.Test.YtdhnjkcebaahcaaGreatDoorLineH
import Derived.RegionTactic
import Derived.Deep.RegionHeld3
import Derived.Deep.CutRange
namespace Go.Proofs.YtdhnjkcebaahcaaGreatDoor.Parse
open Go Go.RowKit Go.Proofs.YtdhnjkcebaahcaaGreatDoor.Mem Go.Proofs.YtdhnjkcebaahcaaGreatDoor.Valid
set_option linter.unusedVariables false
set_option linter.unusedSimpArgs false
attribute [local go_sem ↓] Go.wp_at_zero Go.wp_at_succ

set_option maxHeartbeats 1600000 in
set_option maxRecDepth 100000 in
theorem lineS3 (B : Nat) (a1 a2 a3 : Option Addr) (N1 N2 N3 c1 c2 c3 : Nat) (s : Acc) (p : Option Addr) (ln : List UInt8) (n c : Nat) (w : World) (h1 : N1 = s.V.length) (h2 : N2 = s.Q.length) (h3 : N3 = s.R.length)
    (hA : AccAt B w (.slice a1 N1 c1) (.slice a2 N2 c2) (.slice a3 N3 c3) s) (hB : B ≤ w.heap.size) (hn : n = ln.length) (hr : Rd w p ln) (hl : n ≤ 300000) (b1 : N1 ≤ 64) (b2 : N2 ≤ 1000) (b3 : N3 ≤ 4000) (hk0 : kindOf (fld (split 32 ln) 0) = 3) :
    Calls Tryz.prog 13 #[.agg #[.slice a1 N1 c1, .slice a2 N2 c2, .slice a3 N3 c3], .slice p n c] w fun e w' => ∃ v1 v2 v3, e = .returned (.tuple #[.int .i64 (lineF s ln).1, .agg #[v1, v2, v3]]) ∧ AccAt B w' v1 v2 v3 (lineF s ln).2 ∧ Below B w w' := by
  have HK0 := Hid.mk hk0
  clear hk0
  have HA := Hid.mk hA
  have HR := Hid.mk hr
  have HN := Hid.mk hn
  have H1 := Hid.mk h1
  have H2 := Hid.mk h2
  have H3 := Hid.mk h3
  clear hA hr hn h1 h2 h3
  go_enter Tryz.func13, Tryz.ntmps13
  go_wp2_with fail
  refine (splitS p ln n c 32 32 _ HN.out rfl (HR.out.below (below_alloc' (below_alloc' (Below.refl _ _) _) _)) (by omega)).mono ?_
  rintro e w1 ⟨fp, fc, rfl, hfl, hb1⟩
  have BX := Hid.mk (blk_below (blk_alloc (blk_new w _) _) hb1)
  have RX := Hid.mk (blk_below (blk_new1 w _ _) hb1)
  have HB1 := Hid.mk (below_then (w := w) (below_alloc' (below_alloc' (Below.refl _ _) _) _) hb1)
  have HF : Hid (lineF s ln = lineK s (split 32 ln) (kindOf (fld (split 32 ln) 0))) := rfl
  have m0 := split_pos 32 ln
  have m1 := split_len 32 ln
  rw [← HN.out] at m1
  obtain ⟨L, hL⟩ : ∃ L, L = split 32 ln := ⟨_, rfl⟩
  rw [← hL] at hfl HF HK0 m0 m1 ⊢
  obtain ⟨M, hM⟩ : ∃ M, M = L.length := ⟨_, rfl⟩
  rw [← hM] at m0 m1 ⊢
  obtain ⟨g, p0, n0, d0, f0, rfl, x0, l0, s0, r0⟩ := flds_at hfl (k := 0) (by omega)
  have HL := Hid.mk hfl
  have HLen : Hid (∀ k, (L.getD k []).length ≤ 300000) := fun k => by rw [hL]; exact Nat.le_trans (split_each 32 ln k) (by rw [← HN.out]; exact hl)
  have HM := Hid.mk hM
  have e0 : fld L 0 = f0 := s0.2
  rw [e0] at HF HK0
  have S0 := Hid.mk s0.1
  have R0 := Hid.mk r0
  clear hb1 hfl hL hM s0 r0 e0
  go_wp2_with fail
  refine (kindS p0 f0 n0 d0 _ S0.out R0.out).mono ?_
  rintro e w2 ⟨rfl, rfl⟩
  clear x0
  rw [HK0.out] at HF ⊢
  go_upto_region 5 with fail
  go_cut [39] from 22 to 38 (fun v wx => v = .bool false ∧ wx = w2)
  case first =>
    have x0 := blk_cell BX.out 0
    have x1 := blk_cell BX.out 1
    have x2 := blk_cell BX.out 2
    simp only [List.getElem?_toArray, List.getElem?_cons_zero, List.getElem?_cons_succ] at x0 x1 x2
    by_cases n3 : 0 < N3
    · have n3' : (0 : Int) < (N3 : Int) := by omega
      by_cases n2 : 0 < N2
      · have n2' : (0 : Int) < (N2 : Int) := by omega
        go_wp2
        go_meet
        exact ⟨rfl, rfl⟩
      · have n2' : decide ((0 : Int) < (N2 : Int)) = false := by simp; omega
        go_wp2
        go_meet
        exact ⟨rfl, rfl⟩
    · have n3' : decide ((0 : Int) < (N3 : Int)) = false := by simp; omega
      by_cases n2 : 0 < N2
      · have n2' : (0 : Int) < (N2 : Int) := by omega
        go_wp2
        go_meet
        exact ⟨rfl, rfl⟩
      · have n2' : decide ((0 : Int) < (N2 : Int)) = false := by simp; omega
        go_wp2
        go_meet
        exact ⟨rfl, rfl⟩
  case rest =>
    obtain ⟨hv39, hw39⟩ := hcut
    rw [hv39, hw39]
    clear hv39 hw39
    by_cases hM : M = 4
    · subst hM
      have HF6 : Hid (okFlds 3 L = false → lineF s ln = (6, s)) := fun h => by rw [HF.out]; unfold lineK; rw [if_neg (by decide), if_neg (by omega), if_neg (by rw [← HM.out]; decide), if_pos h]
      have HF7 : Hid (okFlds 3 L = true → lineF s ln = addR s (rdOf L)) := fun h => by rw [HF.out]; unfold lineK; rw [if_neg (by decide), if_neg (by omega), if_neg (by rw [← HM.out]; decide), if_neg (by rw [h]; decide)]; rfl
      clear HF
      have x0 := blk_cell BX.out 0
      have x1 := blk_cell BX.out 1
      have x2 := blk_cell BX.out 2
      simp only [List.getElem?_toArray, List.getElem?_cons_zero, List.getElem?_cons_succ] at x0 x1 x2
      go_wp2
      clear x0 x1 x2
      go_loopw [9] (fun i wr => (∃ m, wr = w2.drewN m) ∧ ∃ j : Nat, j + 1 ≤ 4 ∧ i = .int .i64 ((j : Int) + 1) ∧ Hid (allB j (fun i => okFld 3 L (i + 1)) = true)) (fun i _ => 4 - (intOf i).toNat)
      case atStart => exact ⟨⟨0, rfl⟩, 0, by omega, rfl, rfl⟩
      case round =>
        obtain ⟨⟨m, hwl⟩, j, hj, rfl, hall⟩ := hrel
        obtain ⟨wl, hwl2⟩ : ∃ wl, wl = wr := ⟨_, rfl⟩
        rw [← hwl2] at hwl ⊢
        clear hwl2
        have HWL := Hid.mk hwl
        have HBm : Hid (Below w.heap.size w wl) := by rw [hwl]; exact below_drewN' HB1.out m
        have BX := Hid.mk (heapD hwl BX.out)
        have RX := Hid.mk (heapD hwl RX.out)
        have HLl : Hid (Flds wl (some ⟨g, 0, none⟩) L) := by rw [hwl]; exact HL.out.below (below_drewN' (Below.refl _ _) m)
        clear hwl
        by_cases hlt : j + 1 < 4
        · have hjl : j + 1 < L.length := by rw [← HM.out]; omega
          obtain ⟨g', pj, nj, cj, fj, ej, xj, lj, sj, rj⟩ := flds_at HLl.out (k := j + 1) hjl
          obtain rfl : g = g' := by injection ej with ej; injection ej
          clear ej
          have hnj : nj ≤ 300000 := by rw [sj.1, ← sj.2]; exact HLen.out (j + 1)
          have Sj := Hid.mk sj.1
          have Rj := Hid.mk rj
          clear rj
          have j0 : (0 : Int) ≤ (j : Int) + 1 := by omega
          have j1 : (j : Int) + 1 < 4 := by omega
          have hq : okFld 3 L (j + 1) = isNum fj := by unfold okFld; rw [if_neg (by omega)]; rw [show fld L (j + 1) = fj from sj.2]
          clear sj
          cases hv : isNum fj with
          | true =>
            have ha : Hid (allB (j + 1) (fun i => okFld 3 L (i + 1)) = true) := allB_succ hall.out (by rw [hq, hv])
            clear hq
            go_wp2_with fail
            with_reducible refine (isNumS pj fj nj cj _ Sj.out lj Rj.out (by omega)).mono ?_
            rintro e w3 ⟨rfl, hw3⟩
            rw [hv, hw3]
            have hm3 : ∃ q, wl = w2.drewN q := ⟨m, HWL.out⟩
            go_wp2
            exact ⟨⟨hm3, j + 1, by omega, by go_num, ha⟩, by simp [intOf]; omega⟩
          | false =>
            have HV := Hid.mk (HF6.out (allB_false (k := j) (by rw [← HM.out]; omega) (by rw [hq, hv])))
            clear hq
            go_wp2_with fail
            with_reducible refine (isNumS pj fj nj cj _ Sj.out lj Rj.out (by omega)).mono ?_
            rintro e w3 ⟨rfl, hw3⟩
            rw [hv, hw3]
            obtain ⟨wz, hwz⟩ : ∃ wz, wz = wl := ⟨_, rfl⟩
            rw [← hwz]
            have BX := Hid.mk (heapE hwz BX.out)
            have RX := Hid.mk (heapE hwz RX.out)
            have HBz : Hid (Below w.heap.size w wz) := by rw [hwz]; exact HBm
            clear hwz
            have x0 := blk_cell BX.out 0
            have x1 := blk_cell BX.out 1
            have x2 := blk_cell BX.out 2
            have y0 := blk_cell RX.out 0
            have y1 := blk_cell RX.out 1
            have y2 := blk_cell RX.out 2
            have z0 := blk_unfrozen RX.out 0
            have z1 := blk_unfrozen RX.out 1
            have z2 := blk_unfrozen RX.out 2
            simp only [List.getElem?_toArray, List.getElem?_cons_zero, List.getElem?_cons_succ] at x0 x1 x2 y0 y1 y2
            go_wp2_with fail
            go_region
            obtain ⟨q0, q1, q2⟩ := set3 y0 y1 y2 (.slice a1 N1 c1) (.slice a2 N2 c2) (.slice a3 N3 c3)
            have HBZ := Hid.mk (set3_below (Nat.le_succ w.heap.size) HBz.out (.slice a1 N1 c1) (.slice a2 N2 c2) (.slice a3 N3 c3))
            obtain ⟨Z, hZ⟩ : ∃ Z, Z = (((wz.setCell ⟨w.heap.size + 1, 0, none⟩ (.slice a1 N1 c1)).setCell ⟨w.heap.size + 1, 1, none⟩ (.slice a2 N2 c2)).setCell ⟨w.heap.size + 1, 2, none⟩ (.slice a3 N3 c3)).drew := ⟨_, rfl⟩
            rw [← hZ] at q0 q1 q2 HBZ ⊢
            clear hZ x0 x1 x2 y0 y1 y2 z0 z1 z2
            go_wp2
            refine bodyPost_ret (by simp [results, Tryz.results13, go_sem, q0, q1, q2]; try rfl) rfl ?_
            rw [HV.out]
            exact ⟨_, _, _, rfl, HA.out.below HBZ.out, HBZ.out.mono hB⟩
        · obtain rfl : j = 3 := by omega
          have HG := Hid.mk (HF7.out (by unfold okFlds; rw [← HM.out]; exact hall.out))
          have hok : ∀ i, i < 3 → okFld 3 L (i + 1) = true := allB_all hall.out
          have ok1 := hok 0 (by omega)
          unfold okFld at ok1
          rw [if_neg (by omega)] at ok1
          have ok2 := hok 1 (by omega)
          unfold okFld at ok2
          rw [if_neg (by omega)] at ok2
          have ok3 := hok 2 (by omega)
          unfold okFld at ok3
          rw [if_neg (by omega)] at ok3
          clear hok hlt
          obtain ⟨g', p1, n1, c1', f1, ej, x1, l1, s1, r1⟩ := flds_at HLl.out (k := 1) (by rw [← HM.out]; omega)
          obtain rfl : g = g' := by injection ej with ej; injection ej
          clear ej
          have e1 : fld L 1 = f1 := s1.2
          rw [e1] at ok1
          have S1 := Hid.mk s1.1
          have R1 := Hid.mk r1
          have OK1 := Hid.mk ok1
          have E1 := Hid.mk e1
          have hn1 : n1 ≤ 300000 := by rw [s1.1, ← s1.2]; exact HLen.out 1
          clear s1 r1 ok1 e1
          obtain ⟨g', p2, n2, c2', f2, ej, x2, l2, s2, r2⟩ := flds_at HLl.out (k := 2) (by rw [← HM.out]; omega)
          obtain rfl : g = g' := by injection ej with ej; injection ej
          clear ej
          have e2 : fld L 2 = f2 := s2.2
          rw [e2] at ok2
          have S2 := Hid.mk s2.1
          have R2 := Hid.mk r2
          have OK2 := Hid.mk ok2
          have E2 := Hid.mk e2
          have hn2 : n2 ≤ 300000 := by rw [s2.1, ← s2.2]; exact HLen.out 2
          clear s2 r2 ok2 e2
          obtain ⟨g', p3, n3, c3', f3, ej, x3, l3, s3, r3⟩ := flds_at HLl.out (k := 3) (by rw [← HM.out]; omega)
          obtain rfl : g = g' := by injection ej with ej; injection ej
          clear ej
          have e3 : fld L 3 = f3 := s3.2
          rw [e3] at ok3
          have S3 := Hid.mk s3.1
          have R3 := Hid.mk r3
          have OK3 := Hid.mk ok3
          have E3 := Hid.mk e3
          have hn3 : n3 ≤ 300000 := by rw [s3.1, ← s3.2]; exact HLen.out 3
          clear s3 r3 ok3 e3
          obtain ⟨v, hv⟩ : ∃ v, v = rdOf L := ⟨_, rfl⟩
          have A1 : Hid (num f1 = v.a) := by rw [hv, ← E1.out]; rfl
          have A2 : Hid (num f2 = v.b) := by rw [hv, ← E2.out]; rfl
          have A3 : Hid (num f3 = v.t) := by rw [hv, ← E3.out]; rfl
          rw [← hv] at HG
          clear hv
          have dx1 : wl.drew.cell? ⟨g, 1, none⟩ = some (.slice p1 n1 c1') := x1
          have dx2 : wl.drew.cell? ⟨g, 2, none⟩ = some (.slice p2 n2 c2') := x2
          have dx3 : wl.drew.cell? ⟨g, 3, none⟩ = some (.slice p3 n3 c3') := x3
          have z1 : (1 : Int) < 4 := by omega
          have hgl : g < wl.heap.size := lt_of_cell x1
          go_upto_region 38 with fail
          go_cut [12] from 136 to 148 (fun s10 wx => ∃ bv, s10 = .pointer (some ⟨bv, 0, none⟩) ∧ Hid (wx.heap[bv]? = some (.cells #[.int .i64 v.a, .int .i64 v.b, .int .i64 v.t] 64)) ∧ Hid (Below wl.heap.size wl wx) ∧ wl.heap.size ≤ bv)
          case first =>
            have HBw : Hid (Below wl.heap.size wl wl.drew) := (Below.refl _ _).drew
            refine wp_region_held_drew (S := (fun w' => w'.cell? ⟨g, 1, none⟩ = some (.slice p1 n1 c1') ∧ w'.cell? ⟨g, 2, none⟩ = some (.slice p2 n2 c2') ∧ w'.cell? ⟨g, 3, none⟩ = some (.slice p3 n3 c3'))) (by kernel_rfl) ?_ (fun hHeld => ?_)
            · exact ⟨dx1, dx2, dx3⟩
            refine wpAnyH_take (i := 0) (v := ?_) rfl (by kernel_rfl) (by kernel_rfl) (by kernel_rfl) (fun _ _ _ h => h) (Or.inl ⟨by rfl, ?_⟩) (by assumption) ?_
            rotate_left
            · intro w hSw; (try dsimp only at hSw); go_simp; (try with_reducible rfl)
            rotate_left
            simp only [Act.put, List.setIfInBounds_toArray, List.set_cons_zero, List.set_cons_succ, List.getElem_toArray, List.getElem_cons_zero, List.getElem_cons_succ]
            refine wpAnyH_take (i := 1) (v := ?_) rfl (by kernel_rfl) (by kernel_rfl) (by kernel_rfl) (fun _ _ _ h => h) (Or.inl ⟨by rfl, ?_⟩) (by assumption) ?_
            rotate_left
            · intro w hSw; (try dsimp only at hSw); go_simp; (try with_reducible rfl)
            rotate_left
            simp only [Act.put, List.setIfInBounds_toArray, List.set_cons_zero, List.set_cons_succ, List.getElem_toArray, List.getElem_cons_zero, List.getElem_cons_succ]
            refine wpAnyH_take (i := 2) (v := ?_) rfl (by kernel_rfl) (by kernel_rfl) (by kernel_rfl) (fun _ _ _ h => h) (Or.inl ⟨by rfl, ?_⟩) (by assumption) ?_
            rotate_left
            · intro w hSw; (try dsimp only at hSw); go_simp; (try with_reducible rfl)
            rotate_left
            simp only [Act.put, List.setIfInBounds_toArray, List.set_cons_zero, List.set_cons_succ, List.getElem_toArray, List.getElem_cons_zero, List.getElem_cons_succ]
            refine wpAnyH_take (i := 4) (v := ?_) rfl (by kernel_rfl) (by kernel_rfl) (by kernel_rfl) (fun _ _ _ h => h) (Or.inl ⟨by rfl, ?_⟩) (by assumption) ?_
            rotate_left
            · intro w hSw; (try dsimp only at hSw); go_simp; (try with_reducible rfl)
            rotate_left
            simp only [Act.put, List.setIfInBounds_toArray, List.set_cons_zero, List.set_cons_succ, List.getElem_toArray, List.getElem_cons_zero, List.getElem_cons_succ]
            refine wpAnyH_take (i := 5) (v := ?_) rfl (by kernel_rfl) (by kernel_rfl) (by kernel_rfl) (fun _ _ _ h => h) (Or.inl ⟨by rfl, ?_⟩) (by assumption) ?_
            rotate_left
            · intro w hSw; (try dsimp only at hSw); go_simp; (try with_reducible rfl)
            rotate_left
            simp only [Act.put, List.setIfInBounds_toArray, List.set_cons_zero, List.set_cons_succ, List.getElem_toArray, List.getElem_cons_zero, List.getElem_cons_succ]
            refine wpAnyH_take (i := 6) (v := ?_) rfl (by kernel_rfl) (by kernel_rfl) (by kernel_rfl) (fun _ _ _ h => h) (Or.inl ⟨by rfl, ?_⟩) (by assumption) ?_
            rotate_left
            · intro w hSw; (try dsimp only at hSw); go_simp; (try with_reducible rfl)
            rotate_left
            simp only [Act.put, List.setIfInBounds_toArray, List.set_cons_zero, List.set_cons_succ, List.getElem_toArray, List.getElem_cons_zero, List.getElem_cons_succ]
            refine wpAnyH_take (i := 8) (v := ?_) rfl (by kernel_rfl) (by kernel_rfl) (by kernel_rfl) (fun _ _ _ h => h) (Or.inl ⟨by rfl, ?_⟩) (by assumption) ?_
            rotate_left
            · intro w hSw; (try dsimp only at hSw); go_simp; (try with_reducible rfl)
            rotate_left
            simp only [Act.put, List.setIfInBounds_toArray, List.set_cons_zero, List.set_cons_succ, List.getElem_toArray, List.getElem_cons_zero, List.getElem_cons_succ]
            refine wpAnyH_take (i := 9) (v := ?_) rfl (by kernel_rfl) (by kernel_rfl) (by kernel_rfl) (fun _ _ _ h => h) (Or.inl ⟨by rfl, ?_⟩) (by assumption) ?_
            rotate_left
            · intro w hSw; (try dsimp only at hSw); go_simp; (try with_reducible rfl)
            rotate_left
            simp only [Act.put, List.setIfInBounds_toArray, List.set_cons_zero, List.set_cons_succ, List.getElem_toArray, List.getElem_cons_zero, List.getElem_cons_succ]
            refine wpAnyH_take (i := 10) (v := ?_) rfl (by kernel_rfl) (by kernel_rfl) (by kernel_rfl) (fun _ _ _ h => h) (Or.inl ⟨by rfl, ?_⟩) (by assumption) ?_
            rotate_left
            · intro w hSw; (try dsimp only at hSw); go_simp; (try with_reducible rfl)
            rotate_left
            simp only [Act.put, List.setIfInBounds_toArray, List.set_cons_zero, List.set_cons_succ, List.getElem_toArray, List.getElem_cons_zero, List.getElem_cons_succ]
            refine wpAnyH_ready (rs := [3, 13]) (by kernel_rfl) (by simp) ?_
            refine AllReadyH.cons rfl (fun K hK => ?_) ?_
            · go_simp
              refine (numS p1 f1 n1 c1' _ S1.out l1 (Rd.below R1.out HBw.out) OK1.out).mono ?_
              rintro e w3 ⟨rfl, hbc⟩
              rw [A1.out]
              have HBw := Hid.mk (below_then HBw.out hbc)
              (try have VB := Hid.mk (blk_below VB.out hbc))
              go_wp2_with fail
              refine hK.out _ _ ?_ (fun hHeld => ?_)
              · (try dsimp only); first | with_reducible exact hHeld | exact keep3 hHeld hbc
              clear hK K
              (try simp only [Act.put, List.setIfInBounds_toArray, List.set_cons_zero, List.set_cons_succ, List.getElem_toArray, List.getElem_cons_zero, List.getElem_cons_succ])
              refine wpAnyH_ready (rs := [7, 13]) (by kernel_rfl) (by simp) ?_
              refine AllReadyH.cons rfl (fun K hK => ?_) ?_
              · go_simp
                refine (numS p2 f2 n2 c2' _ S2.out l2 (Rd.below R2.out HBw.out) OK2.out).mono ?_
                rintro e w4 ⟨rfl, hbc⟩
                rw [A2.out]
                have HBw := Hid.mk (below_then HBw.out hbc)
                (try have VB := Hid.mk (blk_below VB.out hbc))
                go_wp2_with fail
                refine hK.out _ _ ?_ (fun hHeld => ?_)
                · (try dsimp only); first | with_reducible exact hHeld | exact keep3 hHeld hbc
                clear hK K
                (try simp only [Act.put, List.setIfInBounds_toArray, List.set_cons_zero, List.set_cons_succ, List.getElem_toArray, List.getElem_cons_zero, List.getElem_cons_succ])
                refine wpAnyH_ready (rs := [11, 13]) (by kernel_rfl) (by simp) ?_
                refine AllReadyH.cons rfl (fun K hK => ?_) ?_
                · go_simp
                  refine (numS p3 f3 n3 c3' _ S3.out l3 (Rd.below R3.out HBw.out) OK3.out).mono ?_
                  rintro e w5 ⟨rfl, hbc⟩
                  rw [A3.out]
                  have HBw := Hid.mk (below_then HBw.out hbc)
                  (try have VB := Hid.mk (blk_below VB.out hbc))
                  go_wp2_with fail
                  refine hK.out _ _ ?_ (fun hHeld => ?_)
                  · (try dsimp only); first | with_reducible exact hHeld | exact keep3 hHeld hbc
                  clear hK K
                  (try simp only [Act.put, List.setIfInBounds_toArray, List.set_cons_zero, List.set_cons_succ, List.getElem_toArray, List.getElem_cons_zero, List.getElem_cons_succ])
                  refine wpAnyH_ready (rs := [12, 13]) (by kernel_rfl) (by simp) ?_
                  refine AllReadyH.cons rfl (fun K hK => ?_) ?_
                  · go_simp
                    refine hK.out _ _ ?_ (fun hHeld => ?_)
                    · (try dsimp only); first | with_reducible exact hHeld | exact keep3 hHeld hbc
                    clear hK K
                    (try simp only [Act.put, List.setIfInBounds_toArray, List.set_cons_zero, List.set_cons_succ, List.getElem_toArray, List.getElem_cons_zero, List.getElem_cons_succ])
                    refine wpAnyH_ready (rs := [13]) (by kernel_rfl) (by simp) ?_
                    refine AllReadyH.cons rfl (fun K hK => ?_) ?_
                    · go_simp
                      have HBp := HBw
                      obtain ⟨HBa, VBa, hbv⟩ := allocFacts HBw.out (.cells #[.int .i64 0, .int .i64 0, .int .i64 0] 64)
                      (try simp only [size_drew] at VBa hbv)
                      have HBw := Hid.mk HBa
                      have VB := Hid.mk VBa
                      have hgb := Nat.ne_of_lt (Nat.lt_of_lt_of_le hgl hbv)
                      clear HBa VBa
                      refine hK.out _ _ ?_ (fun hHeld => ?_)
                      · (try dsimp only); exact keep3al hHeld _
                      clear hK K
                      (try simp only [Act.put, List.setIfInBounds_toArray, List.set_cons_zero, List.set_cons_succ, List.getElem_toArray, List.getElem_cons_zero, List.getElem_cons_succ])
                      refine wpAnyH_ready (rs := [14]) (by kernel_rfl) (by simp) ?_
                      refine AllReadyH.cons rfl (fun K hK => ?_) ?_
                      · have t0 := blk_cell VB.out 0
                        have t1 := blk_cell VB.out 1
                        have t2 := blk_cell VB.out 2
                        have u0' := blk_unfrozen VB.out 0
                        have u1' := blk_unfrozen VB.out 1
                        have u2' := blk_unfrozen VB.out 2
                        simp only [List.getElem?_toArray, List.getElem?_cons_zero, List.getElem?_cons_succ] at t0 t1 t2
                        go_simp
                        refine hK.out _ _ ?_ (fun hHeld => ?_)
                        · (try dsimp only); exact keep3al (keep3 ⟨x1, x2, x3⟩ HBp.out) _
                        clear hK K
                        (try simp only [Act.put, List.setIfInBounds_toArray, List.set_cons_zero, List.set_cons_succ, List.getElem_toArray, List.getElem_cons_zero, List.getElem_cons_succ])
                        refine wpAnyH_done (by kernel_rfl) ?_ _
                        go_wp2_with fail
                        go_meet
                        exact ⟨_, rfl, blk_new _ _, below_alloc' HBp.out _, HBp.out.size⟩
                      exact AllReadyH.nil
                    exact AllReadyH.nil
                  refine AllReadyH.cons rfl (fun K hK => ?_) ?_
                  · go_simp
                    have HBp := HBw
                    obtain ⟨HBa, VBa, hbv⟩ := allocFacts HBw.out (.cells #[.int .i64 0, .int .i64 0, .int .i64 0] 64)
                    (try simp only [size_drew] at VBa hbv)
                    have HBw := Hid.mk HBa
                    have VB := Hid.mk VBa
                    have hgb := Nat.ne_of_lt (Nat.lt_of_lt_of_le hgl hbv)
                    clear HBa VBa
                    refine hK.out _ _ ?_ (fun hHeld => ?_)
                    · (try dsimp only); exact keep3al hHeld _
                    clear hK K
                    (try simp only [Act.put, List.setIfInBounds_toArray, List.set_cons_zero, List.set_cons_succ, List.getElem_toArray, List.getElem_cons_zero, List.getElem_cons_succ])
                    refine wpAnyH_ready (rs := [12]) (by kernel_rfl) (by simp) ?_
                    refine AllReadyH.cons rfl (fun K hK => ?_) ?_
                    · go_simp
                      refine hK.out _ _ ?_ (fun hHeld => ?_)
                      · (try dsimp only); first | with_reducible exact hHeld | exact keep3 hHeld hbc
                      clear hK K
                      (try simp only [Act.put, List.setIfInBounds_toArray, List.set_cons_zero, List.set_cons_succ, List.getElem_toArray, List.getElem_cons_zero, List.getElem_cons_succ])
                      refine wpAnyH_ready (rs := [14]) (by kernel_rfl) (by simp) ?_
                      refine AllReadyH.cons rfl (fun K hK => ?_) ?_
                      · have t0 := blk_cell VB.out 0
                        have t1 := blk_cell VB.out 1
                        have t2 := blk_cell VB.out 2
                        have u0' := blk_unfrozen VB.out 0
                        have u1' := blk_unfrozen VB.out 1
                        have u2' := blk_unfrozen VB.out 2
                        simp only [List.getElem?_toArray, List.getElem?_cons_zero, List.getElem?_cons_succ] at t0 t1 t2
                        go_simp
                        refine hK.out _ _ ?_ (fun hHeld => ?_)
                        · (try dsimp only); exact keep3al (keep3 ⟨x1, x2, x3⟩ HBp.out) _
                        clear hK K
                        (try simp only [Act.put, List.setIfInBounds_toArray, List.set_cons_zero, List.set_cons_succ, List.getElem_toArray, List.getElem_cons_zero, List.getElem_cons_succ])
                        refine wpAnyH_done (by kernel_rfl) ?_ _
                        go_wp2_with fail
                        go_meet
                        exact ⟨_, rfl, blk_new _ _, below_alloc' HBp.out _, HBp.out.size⟩
                      exact AllReadyH.nil
                    exact AllReadyH.nil
                  exact AllReadyH.nil
                refine AllReadyH.cons rfl (fun K hK => ?_) ?_
                · go_simp
                  have HBp := HBw
                  obtain ⟨HBa, VBa, hbv⟩ := allocFacts HBw.out (.cells #[.int .i64 0, .int .i64 0, .int .i64 0] 64)
                  (try simp only [size_drew] at VBa hbv)
                  have HBw := Hid.mk HBa
                  have VB := Hid.mk VBa
                  have hgb := Nat.ne_of_lt (Nat.lt_of_lt_of_le hgl hbv)
                  clear HBa VBa
                  refine hK.out _ _ ?_ (fun hHeld => ?_)
                  · (try dsimp only); exact keep3al hHeld _
                  clear hK K
                  (try simp only [Act.put, List.setIfInBounds_toArray, List.set_cons_zero, List.set_cons_succ, List.getElem_toArray, List.getElem_cons_zero, List.getElem_cons_succ])
                  refine wpAnyH_ready (rs := [11]) (by kernel_rfl) (by simp) ?_
                  refine AllReadyH.cons rfl (fun K hK => ?_) ?_
                  · go_simp
                    refine (numS p3 f3 n3 c3' _ S3.out l3 (Rd.below R3.out HBw.out) OK3.out).mono ?_
                    rintro e w5 ⟨rfl, hbc⟩
                    rw [A3.out]
                    have HBw := Hid.mk (below_then HBw.out hbc)
                    (try have VB := Hid.mk (blk_below VB.out hbc))
                    go_wp2_with fail
                    refine hK.out _ _ ?_ (fun hHeld => ?_)
                    · (try dsimp only); first | with_reducible exact hHeld | exact keep3 hHeld hbc
                    clear hK K
                    (try simp only [Act.put, List.setIfInBounds_toArray, List.set_cons_zero, List.set_cons_succ, List.getElem_toArray, List.getElem_cons_zero, List.getElem_cons_succ])
                    refine wpAnyH_ready (rs := [12]) (by kernel_rfl) (by simp) ?_
                    refine AllReadyH.cons rfl (fun K hK => ?_) ?_
                    · go_simp
                      refine hK.out _ _ ?_ (fun hHeld => ?_)
                      · (try dsimp only); first | with_reducible exact hHeld | exact keep3 hHeld hbc
                      clear hK K
                      (try simp only [Act.put, List.setIfInBounds_toArray, List.set_cons_zero, List.set_cons_succ, List.getElem_toArray, List.getElem_cons_zero, List.getElem_cons_succ])
                      refine wpAnyH_ready (rs := [14]) (by kernel_rfl) (by simp) ?_
                      refine AllReadyH.cons rfl (fun K hK => ?_) ?_
                      · have t0 := blk_cell VB.out 0
                        have t1 := blk_cell VB.out 1
                        have t2 := blk_cell VB.out 2
                        have u0' := blk_unfrozen VB.out 0
                        have u1' := blk_unfrozen VB.out 1
                        have u2' := blk_unfrozen VB.out 2
                        simp only [List.getElem?_toArray, List.getElem?_cons_zero, List.getElem?_cons_succ] at t0 t1 t2
                        go_simp
                        refine hK.out _ _ ?_ (fun hHeld => ?_)
                        · (try dsimp only); exact keep3s hgb (keep3s hgb (keep3s hgb (hHeld)))
                        clear hK K
                        (try simp only [Act.put, List.setIfInBounds_toArray, List.set_cons_zero, List.set_cons_succ, List.getElem_toArray, List.getElem_cons_zero, List.getElem_cons_succ])
                        refine wpAnyH_done (by kernel_rfl) ?_ _
                        have VBs := sets_blk VB.out [.int .i64 v.a, .int .i64 v.b, .int .i64 v.t] rfl
                        have HBs := Below.setCells' _ hbv [.int .i64 v.a, .int .i64 v.b, .int .i64 v.t] 0 _ HBw.out
                        go_wp2_with fail
                        go_meet
                        exact ⟨_, rfl, VBs, HBs, hbv⟩
                      exact AllReadyH.nil
                    exact AllReadyH.nil
                  exact AllReadyH.nil
                exact AllReadyH.nil
              refine AllReadyH.cons rfl (fun K hK => ?_) ?_
              · go_simp
                have HBp := HBw
                obtain ⟨HBa, VBa, hbv⟩ := allocFacts HBw.out (.cells #[.int .i64 0, .int .i64 0, .int .i64 0] 64)
                (try simp only [size_drew] at VBa hbv)
                have HBw := Hid.mk HBa
                have VB := Hid.mk VBa
                have hgb := Nat.ne_of_lt (Nat.lt_of_lt_of_le hgl hbv)
                clear HBa VBa
                refine hK.out _ _ ?_ (fun hHeld => ?_)
                · (try dsimp only); exact keep3al hHeld _
                clear hK K
                (try simp only [Act.put, List.setIfInBounds_toArray, List.set_cons_zero, List.set_cons_succ, List.getElem_toArray, List.getElem_cons_zero, List.getElem_cons_succ])
                refine wpAnyH_ready (rs := [7]) (by kernel_rfl) (by simp) ?_
                refine AllReadyH.cons rfl (fun K hK => ?_) ?_
                · go_simp
                  refine (numS p2 f2 n2 c2' _ S2.out l2 (Rd.below R2.out HBw.out) OK2.out).mono ?_
                  rintro e w4 ⟨rfl, hbc⟩
                  rw [A2.out]
                  have HBw := Hid.mk (below_then HBw.out hbc)
                  (try have VB := Hid.mk (blk_below VB.out hbc))
                  go_wp2_with fail
                  refine hK.out _ _ ?_ (fun hHeld => ?_)
                  · (try dsimp only); first | with_reducible exact hHeld | exact keep3 hHeld hbc
                  clear hK K
                  (try simp only [Act.put, List.setIfInBounds_toArray, List.set_cons_zero, List.set_cons_succ, List.getElem_toArray, List.getElem_cons_zero, List.getElem_cons_succ])
                  refine wpAnyH_ready (rs := [11]) (by kernel_rfl) (by simp) ?_
                  refine AllReadyH.cons rfl (fun K hK => ?_) ?_
                  · go_simp
                    refine (numS p3 f3 n3 c3' _ S3.out l3 (Rd.below R3.out HBw.out) OK3.out).mono ?_
                    rintro e w5 ⟨rfl, hbc⟩
                    rw [A3.out]
                    have HBw := Hid.mk (below_then HBw.out hbc)
                    (try have VB := Hid.mk (blk_below VB.out hbc))
                    go_wp2_with fail
                    refine hK.out _ _ ?_ (fun hHeld => ?_)
                    · (try dsimp only); first | with_reducible exact hHeld | exact keep3 hHeld hbc
                    clear hK K
                    (try simp only [Act.put, List.setIfInBounds_toArray, List.set_cons_zero, List.set_cons_succ, List.getElem_toArray, List.getElem_cons_zero, List.getElem_cons_succ])
                    refine wpAnyH_ready (rs := [12]) (by kernel_rfl) (by simp) ?_
                    refine AllReadyH.cons rfl (fun K hK => ?_) ?_
                    · go_simp
                      refine hK.out _ _ ?_ (fun hHeld => ?_)
                      · (try dsimp only); first | with_reducible exact hHeld | exact keep3 hHeld hbc
                      clear hK K
                      (try simp only [Act.put, List.setIfInBounds_toArray, List.set_cons_zero, List.set_cons_succ, List.getElem_toArray, List.getElem_cons_zero, List.getElem_cons_succ])
                      refine wpAnyH_ready (rs := [14]) (by kernel_rfl) (by simp) ?_
                      refine AllReadyH.cons rfl (fun K hK => ?_) ?_
                      · have t0 := blk_cell VB.out 0
                        have t1 := blk_cell VB.out 1
                        have t2 := blk_cell VB.out 2
                        have u0' := blk_unfrozen VB.out 0
                        have u1' := blk_unfrozen VB.out 1
                        have u2' := blk_unfrozen VB.out 2
                        simp only [List.getElem?_toArray, List.getElem?_cons_zero, List.getElem?_cons_succ] at t0 t1 t2
                        go_simp
                        refine hK.out _ _ ?_ (fun hHeld => ?_)
                        · (try dsimp only); exact keep3s hgb (keep3s hgb (keep3s hgb (hHeld)))
                        clear hK K
                        (try simp only [Act.put, List.setIfInBounds_toArray, List.set_cons_zero, List.set_cons_succ, List.getElem_toArray, List.getElem_cons_zero, List.getElem_cons_succ])
                        refine wpAnyH_done (by kernel_rfl) ?_ _
                        have VBs := sets_blk VB.out [.int .i64 v.a, .int .i64 v.b, .int .i64 v.t] rfl
                        have HBs := Below.setCells' _ hbv [.int .i64 v.a, .int .i64 v.b, .int .i64 v.t] 0 _ HBw.out
                        go_wp2_with fail
                        go_meet
                        exact ⟨_, rfl, VBs, HBs, hbv⟩
                      exact AllReadyH.nil
                    exact AllReadyH.nil
                  exact AllReadyH.nil
                exact AllReadyH.nil
              exact AllReadyH.nil
            refine AllReadyH.cons rfl (fun K hK => ?_) ?_
            · go_simp
              have HBp := HBw
              obtain ⟨HBa, VBa, hbv⟩ := allocFacts HBw.out (.cells #[.int .i64 0, .int .i64 0, .int .i64 0] 64)
              (try simp only [size_drew] at VBa hbv)
              have HBw := Hid.mk HBa
              have VB := Hid.mk VBa
              have hgb := Nat.ne_of_lt (Nat.lt_of_lt_of_le hgl hbv)
              clear HBa VBa
              refine hK.out _ _ ?_ (fun hHeld => ?_)
              · (try dsimp only); exact keep3al hHeld _
              clear hK K
              (try simp only [Act.put, List.setIfInBounds_toArray, List.set_cons_zero, List.set_cons_succ, List.getElem_toArray, List.getElem_cons_zero, List.getElem_cons_succ])
              refine wpAnyH_ready (rs := [3]) (by kernel_rfl) (by simp) ?_
              refine AllReadyH.cons rfl (fun K hK => ?_) ?_
              · go_simp
                refine (numS p1 f1 n1 c1' _ S1.out l1 (Rd.below R1.out HBw.out) OK1.out).mono ?_
                rintro e w3 ⟨rfl, hbc⟩
                rw [A1.out]
                have HBw := Hid.mk (below_then HBw.out hbc)
                (try have VB := Hid.mk (blk_below VB.out hbc))
                go_wp2_with fail
                refine hK.out _ _ ?_ (fun hHeld => ?_)
                · (try dsimp only); first | with_reducible exact hHeld | exact keep3 hHeld hbc
                clear hK K
                (try simp only [Act.put, List.setIfInBounds_toArray, List.set_cons_zero, List.set_cons_succ, List.getElem_toArray, List.getElem_cons_zero, List.getElem_cons_succ])
                refine wpAnyH_ready (rs := [7]) (by kernel_rfl) (by simp) ?_
                refine AllReadyH.cons rfl (fun K hK => ?_) ?_
                · go_simp
                  refine (numS p2 f2 n2 c2' _ S2.out l2 (Rd.below R2.out HBw.out) OK2.out).mono ?_
                  rintro e w4 ⟨rfl, hbc⟩
                  rw [A2.out]
                  have HBw := Hid.mk (below_then HBw.out hbc)
                  (try have VB := Hid.mk (blk_below VB.out hbc))
                  go_wp2_with fail
                  refine hK.out _ _ ?_ (fun hHeld => ?_)
                  · (try dsimp only); first | with_reducible exact hHeld | exact keep3 hHeld hbc
                  clear hK K
                  (try simp only [Act.put, List.setIfInBounds_toArray, List.set_cons_zero, List.set_cons_succ, List.getElem_toArray, List.getElem_cons_zero, List.getElem_cons_succ])
                  refine wpAnyH_ready (rs := [11]) (by kernel_rfl) (by simp) ?_
                  refine AllReadyH.cons rfl (fun K hK => ?_) ?_
                  · go_simp
                    refine (numS p3 f3 n3 c3' _ S3.out l3 (Rd.below R3.out HBw.out) OK3.out).mono ?_
                    rintro e w5 ⟨rfl, hbc⟩
                    rw [A3.out]
                    have HBw := Hid.mk (below_then HBw.out hbc)
                    (try have VB := Hid.mk (blk_below VB.out hbc))
                    go_wp2_with fail
                    refine hK.out _ _ ?_ (fun hHeld => ?_)
                    · (try dsimp only); first | with_reducible exact hHeld | exact keep3 hHeld hbc
                    clear hK K
                    (try simp only [Act.put, List.setIfInBounds_toArray, List.set_cons_zero, List.set_cons_succ, List.getElem_toArray, List.getElem_cons_zero, List.getElem_cons_succ])
                    refine wpAnyH_ready (rs := [12]) (by kernel_rfl) (by simp) ?_
                    refine AllReadyH.cons rfl (fun K hK => ?_) ?_
                    · go_simp
                      refine hK.out _ _ ?_ (fun hHeld => ?_)
                      · (try dsimp only); first | with_reducible exact hHeld | exact keep3 hHeld hbc
                      clear hK K
                      (try simp only [Act.put, List.setIfInBounds_toArray, List.set_cons_zero, List.set_cons_succ, List.getElem_toArray, List.getElem_cons_zero, List.getElem_cons_succ])
                      refine wpAnyH_ready (rs := [14]) (by kernel_rfl) (by simp) ?_
                      refine AllReadyH.cons rfl (fun K hK => ?_) ?_
                      · have t0 := blk_cell VB.out 0
                        have t1 := blk_cell VB.out 1
                        have t2 := blk_cell VB.out 2
                        have u0' := blk_unfrozen VB.out 0
                        have u1' := blk_unfrozen VB.out 1
                        have u2' := blk_unfrozen VB.out 2
                        simp only [List.getElem?_toArray, List.getElem?_cons_zero, List.getElem?_cons_succ] at t0 t1 t2
                        go_simp
                        refine hK.out _ _ ?_ (fun hHeld => ?_)
                        · (try dsimp only); exact keep3s hgb (keep3s hgb (keep3s hgb (hHeld)))
                        clear hK K
                        (try simp only [Act.put, List.setIfInBounds_toArray, List.set_cons_zero, List.set_cons_succ, List.getElem_toArray, List.getElem_cons_zero, List.getElem_cons_succ])
                        refine wpAnyH_done (by kernel_rfl) ?_ _
                        have VBs := sets_blk VB.out [.int .i64 v.a, .int .i64 v.b, .int .i64 v.t] rfl
                        have HBs := Below.setCells' _ hbv [.int .i64 v.a, .int .i64 v.b, .int .i64 v.t] 0 _ HBw.out
                        go_wp2_with fail
                        go_meet
                        exact ⟨_, rfl, VBs, HBs, hbv⟩
                      exact AllReadyH.nil
                    exact AllReadyH.nil
                  exact AllReadyH.nil
                exact AllReadyH.nil
              exact AllReadyH.nil
            exact AllReadyH.nil

          case rest =>
            obtain ⟨bv, hs10, VB, hbw, hbv⟩ := hcut
            rw [hs10]
            have BX := Hid.mk (blk_below BX.out hbw.out)
            have RX := Hid.mk (blk_below RX.out hbw.out)
            have HB5 := Hid.mk (below_then HBm.out hbw.out)
            clear hs10 hbw
            have v0 := blk_cell VB.out 0
            have v1 := blk_cell VB.out 1
            have v2 := blk_cell VB.out 2
            have x0 := blk_cell BX.out 0
            have x1 := blk_cell BX.out 1
            have x2 := blk_cell BX.out 2
            simp only [List.getElem?_toArray, List.getElem?_cons_zero, List.getElem?_cons_succ] at v0 v1 v2 x0 x1 x2
            have KS : Hid (∀ w0 w', Below w0.heap.size w0 w' → (w0.cell? ⟨bv, 0, none⟩ = some (.int .i64 v.a) ∧ w0.cell? ⟨bv, 1, none⟩ = some (.int .i64 v.b) ∧ w0.cell? ⟨bv, 2, none⟩ = some (.int .i64 v.t) ∧ w0.cell? ⟨w.heap.size, 0, none⟩ = some (.slice a1 N1 c1) ∧ w0.cell? ⟨w.heap.size, 1, none⟩ = some (.slice a2 N2 c2) ∧ w0.cell? ⟨w.heap.size, 2, none⟩ = some (.slice a3 N3 c3)) → (w'.cell? ⟨bv, 0, none⟩ = some (.int .i64 v.a) ∧ w'.cell? ⟨bv, 1, none⟩ = some (.int .i64 v.b) ∧ w'.cell? ⟨bv, 2, none⟩ = some (.int .i64 v.t) ∧ w'.cell? ⟨w.heap.size, 0, none⟩ = some (.slice a1 N1 c1) ∧ w'.cell? ⟨w.heap.size, 1, none⟩ = some (.slice a2 N2 c2) ∧ w'.cell? ⟨w.heap.size, 2, none⟩ = some (.slice a3 N3 c3))) := fun w0 w' hb ⟨h0, h1, h2, h3, h4, h5⟩ => ⟨cell_keep hb h0, cell_keep hb h1, cell_keep hb h2, cell_keep hb h3, cell_keep hb h4, cell_keep hb h5⟩
            have ST : Hid (wc.drew.cell? ⟨bv, 0, none⟩ = some (.int .i64 v.a) ∧ wc.drew.cell? ⟨bv, 1, none⟩ = some (.int .i64 v.b) ∧ wc.drew.cell? ⟨bv, 2, none⟩ = some (.int .i64 v.t) ∧ wc.drew.cell? ⟨w.heap.size, 0, none⟩ = some (.slice a1 N1 c1) ∧ wc.drew.cell? ⟨w.heap.size, 1, none⟩ = some (.slice a2 N2 c2) ∧ wc.drew.cell? ⟨w.heap.size, 2, none⟩ = some (.slice a3 N3 c3)) := ⟨v0, v1, v2, x0, x1, x2⟩
            obtain ⟨ND, hND⟩ : ∃ ND, ND = (N1 : Int) + 2 * (N2 : Int) := ⟨_, rfl⟩
            have nd0 : 0 ≤ ND := by omega
            have nd1 : ND ≤ 4000000000 := by omega
            have HND := Hid.mk hND
            have HNA : Hid (nodesA s = ND) := by unfold Hid nodesA; rw [hND, H1.out, H2.out]
            clear hND
            go_wp2_with fail
            go_region_held3 (fun w' => w'.cell? ⟨bv, 0, none⟩ = some (.int .i64 v.a) ∧ w'.cell? ⟨bv, 1, none⟩ = some (.int .i64 v.b) ∧ w'.cell? ⟨bv, 2, none⟩ = some (.int .i64 v.t) ∧ w'.cell? ⟨w.heap.size, 0, none⟩ = some (.slice a1 N1 c1) ∧ w'.cell? ⟨w.heap.size, 1, none⟩ = some (.slice a2 N2 c2) ∧ w'.cell? ⟨w.heap.size, 2, none⟩ = some (.slice a3 N3 c3)) (((try dsimp only); first | exact KS.out _ _ hb6 (by assumption) | exact KS.out _ _ hb5 (by assumption) | exact KS.out _ _ hb5 ST.out | exact ST.out))
              ((first | (go_at_call 28; refine (nodesN a1 a2 a3 c1 c2 c3 N1 N2 N3 _ (by omega) (by omega)).mono ?_; rintro e w5 ⟨rfl, hb5⟩; rw [← HND.out]) | (go_at_call 27; refine (roadS v.a v.b v.t ND _ nd0 nd1).mono ?_; rintro e w6 ⟨rfl, hb6⟩)))
            have hb56 : Below wc.heap.size wc w6 := below_then (below_then (Below.refl _ _).drew hb5) hb6
            have HB6 := Hid.mk (below_then HB5.out hb56)
            have BX := Hid.mk (blk_below BX.out hb56)
            have RX := Hid.mk (blk_below RX.out hb56)
            have VB := Hid.mk (blk_below VB.out hb56)
            clear hb5 hb6 hb56 v0 v1 v2 x0 x1 x2 ST
            (try clear hHeld)
            cases hg : gRoad v.a v.b v.t ND with
            | false =>
              have HV : Hid (lineF s ln = (7, s)) := by unfold Hid; rw [HG.out]; unfold addR; rw [if_pos (by rw [HNA.out]; exact hg)]
              have x0 := blk_cell BX.out 0
              have x1 := blk_cell BX.out 1
              have x2 := blk_cell BX.out 2
              have y0 := blk_cell RX.out 0
              have y1 := blk_cell RX.out 1
              have y2 := blk_cell RX.out 2
              have z0 := blk_unfrozen RX.out 0
              have z1 := blk_unfrozen RX.out 1
              have z2 := blk_unfrozen RX.out 2
              simp only [List.getElem?_toArray, List.getElem?_cons_zero, List.getElem?_cons_succ] at x0 x1 x2 y0 y1 y2
              go_wp2_with fail
              go_region
              obtain ⟨q0, q1, q2⟩ := set3 y0 y1 y2 (.slice a1 N1 c1) (.slice a2 N2 c2) (.slice a3 N3 c3)
              have HBZ := Hid.mk (set3_below (Nat.le_succ w.heap.size) HB6.out (.slice a1 N1 c1) (.slice a2 N2 c2) (.slice a3 N3 c3))
              obtain ⟨Z, hZ⟩ : ∃ Z, Z = (((w6.setCell ⟨w.heap.size + 1, 0, none⟩ (.slice a1 N1 c1)).setCell ⟨w.heap.size + 1, 1, none⟩ (.slice a2 N2 c2)).setCell ⟨w.heap.size + 1, 2, none⟩ (.slice a3 N3 c3)).drew := ⟨_, rfl⟩
              rw [← hZ] at q0 q1 q2 HBZ ⊢
              clear hZ x0 x1 x2 y0 y1 y2 z0 z1 z2
              go_wp2
              refine bodyPost_ret (by simp [results, Tryz.results13, go_sem, q0, q1, q2]; try rfl) rfl ?_
              rw [HV.out]
              exact ⟨_, _, _, rfl, HA.out.below HBZ.out, HBZ.out.mono hB⟩
            | true =>
              by_cases n3 : 0 < N3
              · obtain ⟨m, hm⟩ : ∃ m, N3 = m + 1 := ⟨N3 - 1, by omega⟩
                obtain ⟨g3, x, ha3, hlast, r0, r1, r2⟩ := last_road (HA.out.below HB6.out).r (m := m) (by rw [← H3.out]; exact hm)
                have n3' : (0 : Int) < (N3 : Int) := by omega
                have e4 : IntKind.i64.wrap ((N3 : Int) - 1) = (m : Int) := by rw [IntKind.wrap_i64]; omega
                have k0 : (0 : Int) ≤ (m : Int) := by omega
                have k1 : (m : Int) < (N3 : Int) := by omega
                have HLB : Hid (lastBefore s v = beforeB x v) := by unfold Hid lastBefore; rw [hlast]
                have HMm := Hid.mk hm
                have HLs := Hid.mk hlast
                subst ha3
                clear hm hlast
                have v0 := blk_cell VB.out 0
                have v1 := blk_cell VB.out 1
                have v2 := blk_cell VB.out 2
                have x2 := blk_cell BX.out 2
                simp only [List.getElem?_toArray, List.getElem?_cons_zero, List.getElem?_cons_succ] at v0 v1 v2 x2
                have KS7 : Hid (∀ w0 w', Below w0.heap.size w0 w' → (w0.cell? ⟨bv, 0, none⟩ = some (.int .i64 v.a) ∧ w0.cell? ⟨bv, 1, none⟩ = some (.int .i64 v.b) ∧ w0.cell? ⟨bv, 2, none⟩ = some (.int .i64 v.t) ∧ w0.cell? ⟨w.heap.size, 2, none⟩ = some (.slice (some ⟨g3, 0, none⟩) N3 c3) ∧ w0.cell? ⟨g3, m * 3, none⟩ = some (.int .i64 x.a) ∧ w0.cell? ⟨g3, m * 3 + 1, none⟩ = some (.int .i64 x.b) ∧ w0.cell? ⟨g3, m * 3 + 2, none⟩ = some (.int .i64 x.t)) → (w'.cell? ⟨bv, 0, none⟩ = some (.int .i64 v.a) ∧ w'.cell? ⟨bv, 1, none⟩ = some (.int .i64 v.b) ∧ w'.cell? ⟨bv, 2, none⟩ = some (.int .i64 v.t) ∧ w'.cell? ⟨w.heap.size, 2, none⟩ = some (.slice (some ⟨g3, 0, none⟩) N3 c3) ∧ w'.cell? ⟨g3, m * 3, none⟩ = some (.int .i64 x.a) ∧ w'.cell? ⟨g3, m * 3 + 1, none⟩ = some (.int .i64 x.b) ∧ w'.cell? ⟨g3, m * 3 + 2, none⟩ = some (.int .i64 x.t))) := fun w0 w' hb ⟨h0, h1, h2, h3, h4, h5, h6⟩ => ⟨cell_keep hb h0, cell_keep hb h1, cell_keep hb h2, cell_keep hb h3, cell_keep hb h4, cell_keep hb h5, cell_keep hb h6⟩
                have ST7 : Hid (w6.drew.cell? ⟨bv, 0, none⟩ = some (.int .i64 v.a) ∧ w6.drew.cell? ⟨bv, 1, none⟩ = some (.int .i64 v.b) ∧ w6.drew.cell? ⟨bv, 2, none⟩ = some (.int .i64 v.t) ∧ w6.drew.cell? ⟨w.heap.size, 2, none⟩ = some (.slice (some ⟨g3, 0, none⟩) N3 c3) ∧ w6.drew.cell? ⟨g3, m * 3, none⟩ = some (.int .i64 x.a) ∧ w6.drew.cell? ⟨g3, m * 3 + 1, none⟩ = some (.int .i64 x.b) ∧ w6.drew.cell? ⟨g3, m * 3 + 2, none⟩ = some (.int .i64 x.t)) := ⟨v0, v1, v2, x2, r0, r1, r2⟩
                go_wp2_with fail
                go_region_held3 (fun w' => w'.cell? ⟨bv, 0, none⟩ = some (.int .i64 v.a) ∧ w'.cell? ⟨bv, 1, none⟩ = some (.int .i64 v.b) ∧ w'.cell? ⟨bv, 2, none⟩ = some (.int .i64 v.t) ∧ w'.cell? ⟨w.heap.size, 2, none⟩ = some (.slice (some ⟨g3, 0, none⟩) N3 c3) ∧ w'.cell? ⟨g3, m * 3, none⟩ = some (.int .i64 x.a) ∧ w'.cell? ⟨g3, m * 3 + 1, none⟩ = some (.int .i64 x.b) ∧ w'.cell? ⟨g3, m * 3 + 2, none⟩ = some (.int .i64 x.t)) (((try dsimp only); first | exact KS7.out _ _ hb7 (by assumption) | exact KS7.out _ _ hb7 ST7.out | exact ST7.out))
                  ((go_at_call 29; refine (beforeS x v _).mono ?_; rintro e wb ⟨rfl, hb7⟩))
                have hb67 : Below w6.heap.size w6 wb := below_then (Below.refl _ _).drew hb7
                have HBb := Hid.mk (below_then HB6.out hb67)
                have BX := Hid.mk (blk_below BX.out hb67)
                have RX := Hid.mk (blk_below RX.out hb67)
                have VB := Hid.mk (blk_below VB.out hb67)
                clear hb7 hb67 v0 v1 v2 x2 r0 r1 r2 ST7
                (try clear hHeld)
                cases hbf : beforeB x v with
                | false =>
                  have HV : Hid (lineF s ln = (8, s)) := by unfold Hid; rw [HG.out]; unfold addR; rw [if_neg (by rw [HNA.out, hg]; decide), if_pos (by rw [HLB.out]; exact hbf)]
                  have x0 := blk_cell BX.out 0
                  have x1 := blk_cell BX.out 1
                  have x2 := blk_cell BX.out 2
                  have y0 := blk_cell RX.out 0
                  have y1 := blk_cell RX.out 1
                  have y2 := blk_cell RX.out 2
                  have z0 := blk_unfrozen RX.out 0
                  have z1 := blk_unfrozen RX.out 1
                  have z2 := blk_unfrozen RX.out 2
                  simp only [List.getElem?_toArray, List.getElem?_cons_zero, List.getElem?_cons_succ] at x0 x1 x2 y0 y1 y2
                  go_wp2_with fail
                  go_region
                  obtain ⟨q0, q1, q2⟩ := set3 y0 y1 y2 (.slice a1 N1 c1) (.slice a2 N2 c2) (.slice (some ⟨g3, 0, none⟩) N3 c3)
                  have HBZ := Hid.mk (set3_below (Nat.le_succ w.heap.size) HBb.out (.slice a1 N1 c1) (.slice a2 N2 c2) (.slice (some ⟨g3, 0, none⟩) N3 c3))
                  obtain ⟨Z, hZ⟩ : ∃ Z, Z = (((wb.setCell ⟨w.heap.size + 1, 0, none⟩ (.slice a1 N1 c1)).setCell ⟨w.heap.size + 1, 1, none⟩ (.slice a2 N2 c2)).setCell ⟨w.heap.size + 1, 2, none⟩ (.slice (some ⟨g3, 0, none⟩) N3 c3)).drew := ⟨_, rfl⟩
                  rw [← hZ] at q0 q1 q2 HBZ ⊢
                  clear hZ x0 x1 x2 y0 y1 y2 z0 z1 z2
                  go_wp2
                  refine bodyPost_ret (by simp [results, Tryz.results13, go_sem, q0, q1, q2]; try rfl) rfl ?_
                  rw [HV.out]
                  exact ⟨_, _, _, rfl, HA.out.below HBZ.out, HBZ.out.mono hB⟩
                | true =>
                  by_cases hmx : N3 = 4000
                  · have HV : Hid (lineF s ln = (9, s)) := by unfold Hid; rw [HG.out]; unfold addR; rw [if_neg (by rw [HNA.out, hg]; decide), if_neg (by rw [HLB.out, hbf]; decide), if_pos (by rw [← H3.out]; exact hmx)]
                    have hmx' : ((N3 : Int) == 4000) = true := by simp; omega
                    have hmxH := Hid.mk hmx
                    clear hmx
                    have x0 := blk_cell BX.out 0
                    have x1 := blk_cell BX.out 1
                    have x2 := blk_cell BX.out 2
                    have y0 := blk_cell RX.out 0
                    have y1 := blk_cell RX.out 1
                    have y2 := blk_cell RX.out 2
                    have z0 := blk_unfrozen RX.out 0
                    have z1 := blk_unfrozen RX.out 1
                    have z2 := blk_unfrozen RX.out 2
                    simp only [List.getElem?_toArray, List.getElem?_cons_zero, List.getElem?_cons_succ] at x0 x1 x2 y0 y1 y2
                    go_wp2_with fail
                    go_region
                    obtain ⟨q0, q1, q2⟩ := set3 y0 y1 y2 (.slice a1 N1 c1) (.slice a2 N2 c2) (.slice (some ⟨g3, 0, none⟩) N3 c3)
                    have HBZ := Hid.mk (set3_below (Nat.le_succ w.heap.size) HBb.out (.slice a1 N1 c1) (.slice a2 N2 c2) (.slice (some ⟨g3, 0, none⟩) N3 c3))
                    obtain ⟨Z, hZ⟩ : ∃ Z, Z = (((wb.setCell ⟨w.heap.size + 1, 0, none⟩ (.slice a1 N1 c1)).setCell ⟨w.heap.size + 1, 1, none⟩ (.slice a2 N2 c2)).setCell ⟨w.heap.size + 1, 2, none⟩ (.slice (some ⟨g3, 0, none⟩) N3 c3)).drew := ⟨_, rfl⟩
                    rw [← hZ] at q0 q1 q2 HBZ ⊢
                    clear hZ x0 x1 x2 y0 y1 y2 z0 z1 z2
                    go_wp2
                    refine bodyPost_ret (by simp [results, Tryz.results13, go_sem, q0, q1, q2]; try rfl) rfl ?_
                    rw [HV.out]
                    exact ⟨_, _, _, rfl, HA.out.below HBZ.out, HBZ.out.mono hB⟩
                  · have HV : Hid (lineF s ln = (0, { s with R := s.R ++ [v] })) := by unfold Hid; rw [HG.out]; unfold addR; rw [if_neg (by rw [HNA.out, hg]; decide), if_neg (by rw [HLB.out, hbf]; decide), if_neg (by rw [← H3.out]; exact hmx)]
                    have hmx' : ((N3 : Int) == 4000) = false := by simp; omega
                    have HA6 := Hid.mk (HA.out.below HBb.out)
                    have hsz := HBb.out.size
                    have hrow0 : Hid (wb.ownsRow B 64 3 (.slice (some ⟨g3, 0, none⟩) N3 c3) N3 (s.R.flatMap Rd.cells)) := by rw [H3.out]; have := HA6.out.r; rw [← H3.out] at this ⊢; exact this
                    obtain ⟨i0, hi, hz0, hz1, hz2⟩ := info_parts info3
                    have v0 := blk_cell VB.out 0
                    have v1 := blk_cell VB.out 1
                    have v2 := blk_cell VB.out 2
                    have x0 := blk_cell BX.out 0
                    have x1 := blk_cell BX.out 1
                    have x2 := blk_cell BX.out 2
                    simp only [List.getElem?_toArray, List.getElem?_cons_zero, List.getElem?_cons_succ] at v0 v1 v2 x0 x1 x2
                    go_wp2_with (at_builtin; refine wpList_append_own _ rfl _ _ 25 rfl B 64 i0 (.agg #[.int .i64 0, .int .i64 0, .int .i64 0]) 3 24 Tryz.underlying25 hi hz0 hz1 hz2 rfl (by decide) _ _ _ rfl (hrow0.out.alloc _) ⟨wb.heap.size, 0, none⟩ 1 1 v.cells rfl rfl (news_at wb v.cells 64) (by intro u hu; simp only [Rd.cells, List.mem_cons, List.not_mem_nil, or_false] at hu; rcases hu with rfl | rfl | rfl <;> rfl) (by unfold maxLen; omega) (by omega) (by simp; omega) ?_)
                    intro vn w7 hown7 hgrow _
                    clear v0 v1 v2 x0 x1 x2
                    have BX9 := grown_other hgrow (hrow0.out.alloc _) (blk_alloc BX.out _) (by decide)
                    have RX9 := grown_other hgrow (hrow0.out.alloc _) (blk_alloc RX.out _) (by decide)
                    have hq9 := row_grown ((HA6.out.v).alloc _) hgrow (hrow0.out.alloc _) (by decide)
                    have hr9 := row_grown ((HA6.out.q).alloc _) hgrow (hrow0.out.alloc _) (by decide)
                    have hb7 : Below B w w7 := ((HBb.out.mono hB).alloc (by omega) _).grown hgrow (by simp; omega) (fun k hk => (hrow0.out.lt k hk).1)
                    have hrow9 : w7.ownsRow B 64 3 vn (s.R ++ [v]).length ((s.R ++ [v]).flatMap Rd.cells) := by
                      rw [List.length_append, List.length_singleton, List.flatMap_append, ← H3.out]
                      simpa using hown7
                    obtain ⟨an, cn, hvn, -⟩ := row_shape hown7
                    subst hvn
                    have HB9 : Hid (Below B w (w7.setCell ⟨w.heap.size, 2, none⟩ (.slice an (N3 + 1) cn))) := hb7.setCell (p := ⟨w.heap.size, 2, none⟩) hB _
                    have HA9 : Hid (AccAt B (w7.setCell ⟨w.heap.size, 2, none⟩ (.slice an (N3 + 1) cn)) (Value.slice a1 N1 c1) (Value.slice a2 N2 c2) (Value.slice an (N3 + 1) cn) { s with R := s.R ++ [v] }) := ⟨row_set hq9 BX9 (by decide), row_set hr9 BX9 (by decide), row_set hrow9 BX9 (by decide)⟩
                    have BXs := blk_set BX9 2 (.slice an (N3 + 1) cn)
                    have RXs := blk_set_other RX9 (p := ⟨w.heap.size, 2, none⟩) (Nat.succ_ne_self w.heap.size) (.slice an (N3 + 1) cn)
                    have xs0 := blk_cell BX9 0
                    have xs1 := blk_cell BX9 1
                    have xs2 := blk_cell BX9 2
                    have zs0 := blk_unfrozen BX9 2
                    simp only [List.getElem?_toArray, List.getElem?_cons_zero, List.getElem?_cons_succ] at xs0 xs1 xs2
                    have HBXs := Hid.mk BXs
                    have HRXs := Hid.mk RXs
                    clear hgrow hown7 hrow9 hq9 hr9 hb7 BX9 RX9 BXs RXs
                    refine Hid.out ?_
                    refine Lib.hid ?_
                    go_wp2_with fail
                    obtain ⟨w8, hw8⟩ : ∃ w8, w8 = w7.setCell ⟨w.heap.size, 2, none⟩ (.slice an (N3 + 1) cn) := ⟨_, rfl⟩
                    rw [← hw8] at HB9 HA9 HBXs HRXs ⊢
                    have BX : Hid (w8.heap[w.heap.size]? = some (.cells #[Value.slice a1 N1 c1, Value.slice a2 N2 c2, Value.slice an (N3 + 1) cn] 27)) := HBXs
                    have RX := HRXs
                    clear hw8 HBXs HRXs xs0 xs1 xs2 zs0
                    have x0 := blk_cell BX.out 0
                    have x1 := blk_cell BX.out 1
                    have x2 := blk_cell BX.out 2
                    have y0 := blk_cell RX.out 0
                    have y1 := blk_cell RX.out 1
                    have y2 := blk_cell RX.out 2
                    have z0 := blk_unfrozen RX.out 0
                    have z1 := blk_unfrozen RX.out 1
                    have z2 := blk_unfrozen RX.out 2
                    simp only [List.getElem?_toArray, List.getElem?_cons_zero, List.getElem?_cons_succ] at x0 x1 x2 y0 y1 y2
                    go_wp2_with fail
                    go_region
                    obtain ⟨q0, q1, q2⟩ := set3 y0 y1 y2 (Value.slice a1 N1 c1) (Value.slice a2 N2 c2) (Value.slice an (N3 + 1) cn)
                    have HBZ := Hid.mk (set3_below (B := B) (b := w.heap.size + 1) (by omega) HB9.out (Value.slice a1 N1 c1) (Value.slice a2 N2 c2) (Value.slice an (N3 + 1) cn))
                    have HAZ := Hid.mk (HA9.out.set3 RX.out (Value.slice a1 N1 c1) (Value.slice a2 N2 c2) (Value.slice an (N3 + 1) cn))
                    obtain ⟨Z, hZ⟩ : ∃ Z, Z = (((w8.setCell ⟨w.heap.size + 1, 0, none⟩ (Value.slice a1 N1 c1)).setCell ⟨w.heap.size + 1, 1, none⟩ (Value.slice a2 N2 c2)).setCell ⟨w.heap.size + 1, 2, none⟩ (Value.slice an (N3 + 1) cn)).drew := ⟨_, rfl⟩
                    rw [← hZ] at q0 q1 q2 HBZ HAZ ⊢
                    clear hZ x0 x1 x2 y0 y1 y2 z0 z1 z2
                    go_wp2
                    refine bodyPost_ret (by simp [results, Tryz.results13, go_sem, q0, q1, q2]; try rfl) rfl ?_
                    rw [HV.out]
                    exact ⟨_, _, _, rfl, HAZ.out, HBZ.out⟩
              · have HLB : Hid (lastBefore s v = true) := by
                  unfold Hid lastBefore
                  rw [List.eq_nil_of_length_eq_zero (show s.R.length = 0 by rw [← H3.out]; omega)]
                  rfl
                have n3' : decide ((0 : Int) < (N3 : Int)) = false := by simp; omega
                have x0 := blk_cell BX.out 0
                have x1 := blk_cell BX.out 1
                have x2 := blk_cell BX.out 2
                simp only [List.getElem?_toArray, List.getElem?_cons_zero, List.getElem?_cons_succ] at x0 x1 x2
                go_wp2_with fail
                go_quiet (fail)
                clear x0 x1 x2
                obtain ⟨wq, hwq⟩ : ∃ wq, wq = w6.drewN nq := ⟨_, rfl⟩
                rw [← hwq]
                have BX := Hid.mk (heapD hwq BX.out)
                have RX := Hid.mk (heapD hwq RX.out)
                have VB := Hid.mk (heapD hwq VB.out)
                have HBq : Hid (Below w.heap.size w wq) := by rw [hwq]; exact below_drewN' HB6.out nq
                clear hwq
                by_cases hmx : N3 = 4000
                · have HV : Hid (lineF s ln = (9, s)) := by unfold Hid; rw [HG.out]; unfold addR; rw [if_neg (by rw [HNA.out, hg]; decide), if_neg (by rw [HLB.out]; decide), if_pos (by rw [← H3.out]; exact hmx)]
                  have hmx' : ((N3 : Int) == 4000) = true := by simp; omega
                  have hmxH := Hid.mk hmx
                  clear hmx
                  have x0 := blk_cell BX.out 0
                  have x1 := blk_cell BX.out 1
                  have x2 := blk_cell BX.out 2
                  have y0 := blk_cell RX.out 0
                  have y1 := blk_cell RX.out 1
                  have y2 := blk_cell RX.out 2
                  have z0 := blk_unfrozen RX.out 0
                  have z1 := blk_unfrozen RX.out 1
                  have z2 := blk_unfrozen RX.out 2
                  simp only [List.getElem?_toArray, List.getElem?_cons_zero, List.getElem?_cons_succ] at x0 x1 x2 y0 y1 y2
                  go_wp2_with fail
                  go_region
                  obtain ⟨q0, q1, q2⟩ := set3 y0 y1 y2 (.slice a1 N1 c1) (.slice a2 N2 c2) (.slice a3 N3 c3)
                  have HBZ := Hid.mk (set3_below (Nat.le_succ w.heap.size) HBq.out (.slice a1 N1 c1) (.slice a2 N2 c2) (.slice a3 N3 c3))
                  obtain ⟨Z, hZ⟩ : ∃ Z, Z = (((wq.setCell ⟨w.heap.size + 1, 0, none⟩ (.slice a1 N1 c1)).setCell ⟨w.heap.size + 1, 1, none⟩ (.slice a2 N2 c2)).setCell ⟨w.heap.size + 1, 2, none⟩ (.slice a3 N3 c3)).drew := ⟨_, rfl⟩
                  rw [← hZ] at q0 q1 q2 HBZ ⊢
                  clear hZ x0 x1 x2 y0 y1 y2 z0 z1 z2
                  go_wp2
                  refine bodyPost_ret (by simp [results, Tryz.results13, go_sem, q0, q1, q2]; try rfl) rfl ?_
                  rw [HV.out]
                  exact ⟨_, _, _, rfl, HA.out.below HBZ.out, HBZ.out.mono hB⟩
                · have HV : Hid (lineF s ln = (0, { s with R := s.R ++ [v] })) := by unfold Hid; rw [HG.out]; unfold addR; rw [if_neg (by rw [HNA.out, hg]; decide), if_neg (by rw [HLB.out]; decide), if_neg (by rw [← H3.out]; exact hmx)]
                  have hmx' : ((N3 : Int) == 4000) = false := by simp; omega
                  have HA6 := Hid.mk (HA.out.below HBq.out)
                  have hsz := HBq.out.size
                  have hrow0 : Hid (wq.ownsRow B 64 3 (.slice a3 N3 c3) N3 (s.R.flatMap Rd.cells)) := by rw [H3.out]; have := HA6.out.r; rw [← H3.out] at this ⊢; exact this
                  obtain ⟨i0, hi, hz0, hz1, hz2⟩ := info_parts info3
                  have v0 := blk_cell VB.out 0
                  have v1 := blk_cell VB.out 1
                  have v2 := blk_cell VB.out 2
                  have x0 := blk_cell BX.out 0
                  have x1 := blk_cell BX.out 1
                  have x2 := blk_cell BX.out 2
                  simp only [List.getElem?_toArray, List.getElem?_cons_zero, List.getElem?_cons_succ] at v0 v1 v2 x0 x1 x2
                  go_wp2_with (at_builtin; refine wpList_append_own _ rfl _ _ 25 rfl B 64 i0 (.agg #[.int .i64 0, .int .i64 0, .int .i64 0]) 3 24 Tryz.underlying25 hi hz0 hz1 hz2 rfl (by decide) _ _ _ rfl (hrow0.out.alloc _) ⟨wq.heap.size, 0, none⟩ 1 1 v.cells rfl rfl (news_at wq v.cells 64) (by intro u hu; simp only [Rd.cells, List.mem_cons, List.not_mem_nil, or_false] at hu; rcases hu with rfl | rfl | rfl <;> rfl) (by unfold maxLen; omega) (by omega) (by simp; omega) ?_)
                  intro vn w7 hown7 hgrow _
                  clear v0 v1 v2 x0 x1 x2
                  have BX9 := grown_other hgrow (hrow0.out.alloc _) (blk_alloc BX.out _) (by decide)
                  have RX9 := grown_other hgrow (hrow0.out.alloc _) (blk_alloc RX.out _) (by decide)
                  have hq9 := row_grown ((HA6.out.v).alloc _) hgrow (hrow0.out.alloc _) (by decide)
                  have hr9 := row_grown ((HA6.out.q).alloc _) hgrow (hrow0.out.alloc _) (by decide)
                  have hb7 : Below B w w7 := ((HBq.out.mono hB).alloc (by omega) _).grown hgrow (by simp; omega) (fun k hk => (hrow0.out.lt k hk).1)
                  have hrow9 : w7.ownsRow B 64 3 vn (s.R ++ [v]).length ((s.R ++ [v]).flatMap Rd.cells) := by
                    rw [List.length_append, List.length_singleton, List.flatMap_append, ← H3.out]
                    simpa using hown7
                  obtain ⟨an, cn, hvn, -⟩ := row_shape hown7
                  subst hvn
                  have HB9 : Hid (Below B w (w7.setCell ⟨w.heap.size, 2, none⟩ (.slice an (N3 + 1) cn))) := hb7.setCell (p := ⟨w.heap.size, 2, none⟩) hB _
                  have HA9 : Hid (AccAt B (w7.setCell ⟨w.heap.size, 2, none⟩ (.slice an (N3 + 1) cn)) (Value.slice a1 N1 c1) (Value.slice a2 N2 c2) (Value.slice an (N3 + 1) cn) { s with R := s.R ++ [v] }) := ⟨row_set hq9 BX9 (by decide), row_set hr9 BX9 (by decide), row_set hrow9 BX9 (by decide)⟩
                  have BXs := blk_set BX9 2 (.slice an (N3 + 1) cn)
                  have RXs := blk_set_other RX9 (p := ⟨w.heap.size, 2, none⟩) (Nat.succ_ne_self w.heap.size) (.slice an (N3 + 1) cn)
                  have xs0 := blk_cell BX9 0
                  have xs1 := blk_cell BX9 1
                  have xs2 := blk_cell BX9 2
                  have zs0 := blk_unfrozen BX9 2
                  simp only [List.getElem?_toArray, List.getElem?_cons_zero, List.getElem?_cons_succ] at xs0 xs1 xs2
                  have HBXs := Hid.mk BXs
                  have HRXs := Hid.mk RXs
                  clear hgrow hown7 hrow9 hq9 hr9 hb7 BX9 RX9 BXs RXs
                  refine Hid.out ?_
                  refine Lib.hid ?_
                  go_wp2_with fail
                  obtain ⟨w8, hw8⟩ : ∃ w8, w8 = w7.setCell ⟨w.heap.size, 2, none⟩ (.slice an (N3 + 1) cn) := ⟨_, rfl⟩
                  rw [← hw8] at HB9 HA9 HBXs HRXs ⊢
                  have BX : Hid (w8.heap[w.heap.size]? = some (.cells #[Value.slice a1 N1 c1, Value.slice a2 N2 c2, Value.slice an (N3 + 1) cn] 27)) := HBXs
                  have RX := HRXs
                  clear hw8 HBXs HRXs xs0 xs1 xs2 zs0
                  have x0 := blk_cell BX.out 0
                  have x1 := blk_cell BX.out 1
                  have x2 := blk_cell BX.out 2
                  have y0 := blk_cell RX.out 0
                  have y1 := blk_cell RX.out 1
                  have y2 := blk_cell RX.out 2
                  have z0 := blk_unfrozen RX.out 0
                  have z1 := blk_unfrozen RX.out 1
                  have z2 := blk_unfrozen RX.out 2
                  simp only [List.getElem?_toArray, List.getElem?_cons_zero, List.getElem?_cons_succ] at x0 x1 x2 y0 y1 y2
                  go_wp2_with fail
                  go_region
                  obtain ⟨q0, q1, q2⟩ := set3 y0 y1 y2 (Value.slice a1 N1 c1) (Value.slice a2 N2 c2) (Value.slice an (N3 + 1) cn)
                  have HBZ := Hid.mk (set3_below (B := B) (b := w.heap.size + 1) (by omega) HB9.out (Value.slice a1 N1 c1) (Value.slice a2 N2 c2) (Value.slice an (N3 + 1) cn))
                  have HAZ := Hid.mk (HA9.out.set3 RX.out (Value.slice a1 N1 c1) (Value.slice a2 N2 c2) (Value.slice an (N3 + 1) cn))
                  obtain ⟨Z, hZ⟩ : ∃ Z, Z = (((w8.setCell ⟨w.heap.size + 1, 0, none⟩ (Value.slice a1 N1 c1)).setCell ⟨w.heap.size + 1, 1, none⟩ (Value.slice a2 N2 c2)).setCell ⟨w.heap.size + 1, 2, none⟩ (Value.slice an (N3 + 1) cn)).drew := ⟨_, rfl⟩
                  rw [← hZ] at q0 q1 q2 HBZ HAZ ⊢
                  clear hZ x0 x1 x2 y0 y1 y2 z0 z1 z2
                  go_wp2
                  refine bodyPost_ret (by simp [results, Tryz.results13, go_sem, q0, q1, q2]; try rfl) rfl ?_
                  rw [HV.out]
                  exact ⟨_, _, _, rfl, HAZ.out, HBZ.out⟩
    · have HV : Hid (lineF s ln = (5, s)) := by unfold Hid; rw [HF.out]; unfold lineK; rw [if_neg (by decide), if_neg (by omega), if_pos (by rw [← HM.out]; exact hM)]
      have hM' : ((M : Int) == 4) = false := by simp; omega
      have x0 := blk_cell BX.out 0
      have x1 := blk_cell BX.out 1
      have x2 := blk_cell BX.out 2
      have y0 := blk_cell RX.out 0
      have y1 := blk_cell RX.out 1
      have y2 := blk_cell RX.out 2
      have z0 := blk_unfrozen RX.out 0
      have z1 := blk_unfrozen RX.out 1
      have z2 := blk_unfrozen RX.out 2
      simp only [List.getElem?_toArray, List.getElem?_cons_zero, List.getElem?_cons_succ] at x0 x1 x2 y0 y1 y2
      go_wp2_with fail
      go_region
      obtain ⟨q0, q1, q2⟩ := set3 y0 y1 y2 (.slice a1 N1 c1) (.slice a2 N2 c2) (.slice a3 N3 c3)
      have HBZ := Hid.mk (set3_below (Nat.le_succ w.heap.size) HB1.out (.slice a1 N1 c1) (.slice a2 N2 c2) (.slice a3 N3 c3))
      obtain ⟨Z, hZ⟩ : ∃ Z, Z = (((w2.setCell ⟨w.heap.size + 1, 0, none⟩ (.slice a1 N1 c1)).setCell ⟨w.heap.size + 1, 1, none⟩ (.slice a2 N2 c2)).setCell ⟨w.heap.size + 1, 2, none⟩ (.slice a3 N3 c3)).drew := ⟨_, rfl⟩
      rw [← hZ] at q0 q1 q2 HBZ ⊢
      clear hZ x0 x1 x2 y0 y1 y2 z0 z1 z2
      go_wp2
      refine bodyPost_ret (by simp [results, Tryz.results13, go_sem, q0, q1, q2]; try rfl) rfl ?_
      rw [HV.out]
      exact ⟨_, _, _, rfl, HA.out.below HBZ.out, HBZ.out.mono hB⟩
end Go.Proofs.YtdhnjkcebaahcaaGreatDoor.Parse
