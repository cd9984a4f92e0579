import Derived.Test.YtdhnjkcebaahcaaGreatDoorLineH
import Derived.RegionTactic
import Derived.Deep.RegionHeld3
import Derived.Deep.CutRange
namespace Go.Proofs.YtdhnjkcebaahcaaGreatDoor.Parse
open Go Go.RowKit Go.Proofs.YtdhnjkcebaahcaaGreatDoor.Mem Go.Proofs.YtdhnjkcebaahcaaGreatDoor.Valid
set_option linter.unusedVariables false
set_option linter.unusedSimpArgs false
attribute [local go_sem ↓] Go.wp_at_zero Go.wp_at_succ

set_option maxHeartbeats 1600000 in
set_option maxRecDepth 100000 in
theorem lineS0 (B : Nat) (a1 a2 a3 : Option Addr) (N1 N2 N3 c1 c2 c3 : Nat) (s : Acc) (p : Option Addr) (ln : List UInt8) (n c : Nat) (w : World) (h1 : N1 = s.V.length) (h2 : N2 = s.Q.length) (h3 : N3 = s.R.length)
    (hA : AccAt B w (.slice a1 N1 c1) (.slice a2 N2 c2) (.slice a3 N3 c3) s) (hB : B ≤ w.heap.size) (hn : n = ln.length) (hr : Rd w p ln) (hl : n ≤ 300000) (b1 : N1 ≤ 64) (b2 : N2 ≤ 1000) (b3 : N3 ≤ 4000) (hk0 : kindOf (fld (split 32 ln) 0) = 0) :
    Calls Tryz.prog 13 #[.agg #[.slice a1 N1 c1, .slice a2 N2 c2, .slice a3 N3 c3], .slice p n c] w fun e w' => ∃ v1 v2 v3, e = .returned (.tuple #[.int .i64 (lineF s ln).1, .agg #[v1, v2, v3]]) ∧ AccAt B w' v1 v2 v3 (lineF s ln).2 ∧ Below B w w' := by
  have HK0 := Hid.mk hk0
  clear hk0
  have HA := Hid.mk hA
  have HR := Hid.mk hr
  have HN := Hid.mk hn
  have H1 := Hid.mk h1
  have H2 := Hid.mk h2
  have H3 := Hid.mk h3
  clear hA hr hn h1 h2 h3
  go_enter Tryz.func13, Tryz.ntmps13
  go_wp2_with fail
  refine (splitS p ln n c 32 32 _ HN.out rfl (HR.out.below (below_alloc' (below_alloc' (Below.refl _ _) _) _)) (by omega)).mono ?_
  rintro e w1 ⟨fp, fc, rfl, hfl, hb1⟩
  have BX := Hid.mk (blk_below (blk_alloc (blk_new w _) _) hb1)
  have RX := Hid.mk (blk_below (blk_new1 w _ _) hb1)
  have HB1 := Hid.mk (below_then (w := w) (below_alloc' (below_alloc' (Below.refl _ _) _) _) hb1)
  have HF : Hid (lineF s ln = lineK s (split 32 ln) (kindOf (fld (split 32 ln) 0))) := rfl
  have m0 := split_pos 32 ln
  have m1 := split_len 32 ln
  rw [← HN.out] at m1
  obtain ⟨L, hL⟩ : ∃ L, L = split 32 ln := ⟨_, rfl⟩
  rw [← hL] at hfl HF HK0 m0 m1 ⊢
  obtain ⟨M, hM⟩ : ∃ M, M = L.length := ⟨_, rfl⟩
  rw [← hM] at m0 m1 ⊢
  obtain ⟨g, p0, n0, d0, f0, rfl, x0, l0, s0, r0⟩ := flds_at hfl (k := 0) (by omega)
  have HL := Hid.mk hfl
  have HLen : Hid (∀ k, (L.getD k []).length ≤ 300000) := fun k => by rw [hL]; exact Nat.le_trans (split_each 32 ln k) (by rw [← HN.out]; exact hl)
  have HM := Hid.mk hM
  have e0 : fld L 0 = f0 := s0.2
  rw [e0] at HF HK0
  have S0 := Hid.mk s0.1
  have R0 := Hid.mk r0
  clear hb1 hfl hL hM s0 r0 e0
  go_wp2_with fail
  refine (kindS p0 f0 n0 d0 _ S0.out R0.out).mono ?_
  rintro e w2 ⟨rfl, rfl⟩
  clear x0
  rw [HK0.out] at HF ⊢
  have HV : Hid (lineF s ln = (3, s)) := by unfold Hid; rw [HF.out]; unfold lineK; rw [if_pos rfl]
  have x0 := blk_cell BX.out 0
  have x1 := blk_cell BX.out 1
  have x2 := blk_cell BX.out 2
  have y0 := blk_cell RX.out 0
  have y1 := blk_cell RX.out 1
  have y2 := blk_cell RX.out 2
  have z0 := blk_unfrozen RX.out 0
  have z1 := blk_unfrozen RX.out 1
  have z2 := blk_unfrozen RX.out 2
  simp only [List.getElem?_toArray, List.getElem?_cons_zero, List.getElem?_cons_succ] at x0 x1 x2 y0 y1 y2
  go_wp2_with fail
  go_region
  obtain ⟨q0, q1, q2⟩ := set3 y0 y1 y2 (.slice a1 N1 c1) (.slice a2 N2 c2) (.slice a3 N3 c3)
  have HBZ := Hid.mk (set3_below (Nat.le_succ w.heap.size) HB1.out (.slice a1 N1 c1) (.slice a2 N2 c2) (.slice a3 N3 c3))
  obtain ⟨Z, hZ⟩ : ∃ Z, Z = (((w2.setCell ⟨w.heap.size + 1, 0, none⟩ (.slice a1 N1 c1)).setCell ⟨w.heap.size + 1, 1, none⟩ (.slice a2 N2 c2)).setCell ⟨w.heap.size + 1, 2, none⟩ (.slice a3 N3 c3)).drew := ⟨_, rfl⟩
  rw [← hZ] at q0 q1 q2 HBZ ⊢
  clear hZ x0 x1 x2 y0 y1 y2 z0 z1 z2
  go_wp2
  refine bodyPost_ret (by simp [results, Tryz.results13, go_sem, q0, q1, q2]; try rfl) rfl ?_
  rw [HV.out]
  exact ⟨_, _, _, rfl, HA.out.below HBZ.out, HBZ.out.mono hB⟩
end Go.Proofs.YtdhnjkcebaahcaaGreatDoor.Parse
