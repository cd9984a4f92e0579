import Derived.Test.YtdhnjkcebaahcaaDoorDecB
import Derived.Test.YtdhnjkcebaahcaaDoorDecI
import Derived.Test.YtdhnjkcebaahcaaDoorDecK
import Derived.Test.YtdhnjkcebaahcaaDoorEncU
namespace Go.Proofs.YtdhnjkcebaahcaaDoor.Dec
open Go Go.RowKit Go.Proofs.YtdhnjkcebaahcaaDoor.Mem Go.Proofs.YtdhnjkcebaahcaaDoor.ValC Go.Proofs.YtdhnjkcebaahcaaDoor.Enc
set_option linter.unusedVariables false
set_option linter.unusedSimpArgs false
attribute [local go_sem ↓] Go.wp_at_zero Go.wp_at_succ

theorem getD_drop' (bs : List UInt8) (k j : Nat) : (bs.drop k).getD j 0 = bs.getD (k + j) 0 := by
  simp [List.getD, List.getElem?_drop]
theorem one_of {bs : List UInt8} {k m : Nat} (hk : k ≤ m) (hm : m < bs.length) (h1 : ∀ i, k ≤ i → i < m → 128 ≤ (bs.getD i 0).toNat) (h2 : (bs.getD m 0).toNat < 128) : hib (bs.drop k) = m - k :=
  hib_eq (by rw [List.length_drop]; omega) (fun i hi => by rw [getD_drop']; exact h1 _ (by omega) (by omega)) (by rw [getD_drop', show k + (m - k) = m by omega]; exact h2)
theorem none_end {bs : List UInt8} {k : Nat} (hk : k ≤ bs.length) (h1 : ∀ i, k ≤ i → i < bs.length → 128 ≤ (bs.getD i 0).toNat) : one (bs.drop k) = none := by
  have : bs.length - k ≤ hib (bs.drop k) := hib_ge (by rw [List.length_drop]; omega) (fun i hi => by rw [getD_drop']; exact h1 _ (by omega) (by omega))
  unfold one
  rw [if_neg]
  rw [List.length_drop]
  omega
theorem none_far {bs : List UInt8} {k m : Nat} (h : hib (bs.drop k) = m - k) (h5 : 5 ≤ m - k) : one (bs.drop k) = none := by
  unfold one
  rw [if_neg]
  omega
theorem live_dead {bs : List UInt8} {pre : List Int} {k : Nat} (h : Live bs pre (bs.drop k)) (hk : k < bs.length) (h1 : one (bs.drop k) = none) : nums bs = none := by
  unfold Live at h
  rw [h, nums_none (by intro e; have := congrArg List.length e; rw [List.length_drop] at this; simp at this; omega) h1]
  rfl
theorem seg {D : List UInt8} {x : Nat} (hx : x < D.length) : valB (D.drop (D.length - (x + 1))) = valB (D.drop (D.length - x)) * 128 + (D.getD (D.length - (x + 1)) 0).toNat % 128 := by
  have e : D.drop (D.length - (x + 1)) = D.getD (D.length - (x + 1)) 0 :: D.drop (D.length - x) := by
    rw [List.drop_eq_getElem_cons (show D.length - (x + 1) < D.length by omega), show D.length - (x + 1) + 1 = D.length - x by omega]
    congr 1
    simp [List.getD, List.getElem?_eq_getElem (show D.length - (x + 1) < D.length by omega)]
  rw [e, valB]
  omega
theorem seg_lt {D : List UInt8} (x : Nat) (h5 : D.length ≤ 5) : valB (D.drop x) < 2 ^ 35 := by
  have h := valB_lt (D.drop x)
  have : (128 : Nat) ^ (D.drop x).length ≤ 128 ^ 5 := Nat.pow_le_pow_right (by omega) (by rw [List.length_drop]; omega)
  omega

set_option maxHeartbeats 3200000 in
set_option maxRecDepth 100000 in
theorem numbersS (bs : List UInt8) (n : Nat) (a : Option Addr) (c : Nat) (w : World) (hn : n = bs.length) (hr : RdB w a bs) (hl : n ≤ 1048576) :
    Calls Tryd.prog 58 #[.slice a n c] w fun e w' => ∃ (ok : Bool) (v : Value) (l : List Int), e = .returned (.tuple #[.bool ok, v]) ∧ w'.ownsRow w.heap.size 2 1 v l.length (ints l) ∧ Below w.heap.size w w' ∧ l.length ≤ n ∧ (ok = true → nums bs = some l) ∧ (ok = false → nums bs = none) := by
  obtain ⟨i0, hi, hz0, hz1, hz2⟩ := info_parts info64
  have HR := Hid.mk hr
  have HN := Hid.mk hn
  clear hr hn
  go_enter Tryd.func58, Tryd.ntmps58
  go_wp2
  go_loopw [4, 5] (fun v i wr => ∃ (k : Nat) (pre : List Int), k ≤ n ∧ pre.length ≤ k ∧ i = .int .i64 (k : Int) ∧ Hid (wr.ownsRow w.heap.size 2 1 v pre.length (ints pre)) ∧ Hid (Live bs pre (bs.drop k)) ∧ Hid (Below w.heap.size w wr)) (fun _ i _ => n - (intOf i).toNat)
  case atStart =>
    refine ⟨0, [], Nat.zero_le _, Nat.zero_le _, rfl, ?_, ?_, ?_⟩
    · exact World.ownsRow_made w (base := w.heap.size) (e := 2) (size := 1) #[] 0 (by simp) (by unfold maxLen; omega) (by simp)
    · rw [List.drop_zero]; exact live_start bs
    · unfold Hid; go_grown
  case round =>
    obtain ⟨k, pre, hk, hp, rfl, ho, hv, hb⟩ := hrel
    obtain ⟨va, vc, hvs⟩ := row_shape2 ho.out
    rw [hvs] at ho ⊢
    clear hvs
    obtain ⟨P, hP⟩ : ∃ P, P = pre.length := ⟨_, rfl⟩
    rw [← hP] at ho hp ⊢
    have HP := Hid.mk hP
    clear hP
    by_cases hkn : k < n
    · have k1 : (k : Int) < (n : Int) := by omega
      have hCell : Hid (∃ g o, a = some ⟨g, o, none⟩ ∧ ∀ j, j < n → wr.cell? ⟨g, o + j, none⟩ = some (.int .u8 ((bs.getD j 0).toNat : Int))) := by
        rcases HR.out.below hb.out with h | ⟨g, o, ha, h⟩
        · have := HN.out; rw [h] at this; simp at this; omega
        · refine ⟨g, o, ha, fun j hj => ?_⟩
          have hj' : j < bs.length := by have := HN.out; omega
          rw [h j hj']; simp [List.getD, List.getElem?_eq_getElem hj']
      obtain ⟨g, o, rfl, hcell⟩ := hCell.out
      have HC := Hid.mk hcell
      clear hcell hCell
      go_wp2
      go_loopw [6] (fun j wq => ∃ m : Nat, k ≤ m ∧ m ≤ n ∧ j = .int .i64 (m : Int) ∧ Hid (∀ i, k ≤ i → i < m → 128 ≤ (bs.getD i 0).toNat) ∧ wq = wr) (fun j _ => n - (intOf j).toNat)
      case atStart => exact ⟨k, Nat.le_refl _, hk, rfl, fun i h1 h2 => by omega, rfl⟩
      case round =>
        obtain ⟨m, hkm, hmn, rfl, hhi, hw⟩ := hrel
        subst hw
        by_cases hmn' : m < n
        · have hcm := HC.out m hmn'
          obtain ⟨y, hy⟩ : ∃ y, y = (bs.getD m 0).toNat := ⟨_, rfl⟩
          rw [← hy] at hcm
          have HY := Hid.mk hy
          have hy256 : y < 256 := by rw [hy]; exact UInt8.toNat_lt _
          clear hy
          have q0 : (m : Int) < (n : Int) := by omega
          have m0 : (0 : Int) ≤ (m : Int) := by omega
          by_cases h128 : 128 ≤ y
          · have q1 : (128 : Int) ≤ (y : Int) := by omega
            go_wp2
            refine ⟨⟨m + 1, by omega, by omega, by go_num, fun i h1 h2 => ?_, by first | rfl | trivial⟩, by simp [intOf]; omega⟩
            by_cases e : i = m
            · rw [e, ← HY.out]; exact h128
            · exact hhi.out i h1 (by omega)
          · have q1 : decide ((128 : Int) ≤ (y : Int)) = false := by simp; omega
            have hib0 : Hid (hib (bs.drop k) = m - k) := one_of hkm (by have := HN.out; omega) hhi.out (by rw [← HY.out]; omega)
            have q2 : ((m : Int) == (n : Int)) = false := by simp; omega
            by_cases h5 : 5 ≤ m - k
            · have q3 : (5 : Int) ≤ (m : Int) - (k : Int) := by omega
              go_wp2
              go_ret2
              refine ⟨false, _, pre, rfl, by rw [← HP.out]; exact ho.out, hb.out, by rw [← HP.out]; omega, fun e => (nomatch e), fun _ => ?_⟩
              exact live_dead hv.out (by have := HN.out; omega) (none_far hib0.out h5)
            · have q3 : decide ((5 : Int) ≤ (m : Int) - (k : Int)) = false := by simp; omega
              by_cases hz : k < m ∧ y = 0
              · have q4 : (k : Int) < (m : Int) := by omega
                obtain ⟨hkm', hy0⟩ := hz
                subst hy0
                go_wp2
                go_ret2
                refine ⟨false, _, pre, rfl, by rw [← HP.out]; exact ho.out, hb.out, by rw [← HP.out]; omega, fun e => (nomatch e), fun _ => ?_⟩
                refine live_dead hv.out (by have := HN.out; omega) (one_zero hib0.out (by omega) ?_)
                rw [getD_drop', show k + (m - k) = m by omega, ← HY.out]
              · have hone : Hid (one (bs.drop k) = some (unz (valB ((bs.drop k).take (m - k + 1))), (bs.drop k).drop (m - k + 1))) := one_ok hib0.out (by rw [List.length_drop]; have := HN.out; omega) (by omega) (by rw [getD_drop', show k + (m - k) = m by omega, ← HY.out]; omega)
                obtain ⟨D, hD⟩ : ∃ D, D = (bs.drop k).take (m - k + 1) := ⟨_, rfl⟩
                have hDl : D.length = m - k + 1 := by rw [hD, List.length_take, List.length_drop]; have := HN.out; omega
                have hDg : Hid (∀ x, x < m - k + 1 → D.getD x 0 = bs.getD (k + x) 0) := fun x hx => by rw [hD]; simp [List.getD, List.getElem?_take, hx, List.getElem?_drop]
                rw [← hD] at hone
                clear hD
                have hD5 : D.length ≤ 5 := by omega
                by_cases hkm' : k < m
                · have q4 : (k : Int) < (m : Int) := by omega
                  have q5 : ((y : Int) == 0) = false := by simp; omega
                  go_wp2
                  go_loopw [7, 8] (fun z j wq => ∃ x : Nat, x ≤ D.length ∧ j = .int .i64 ((m : Int) - (x : Int)) ∧ z = .int .i64 (valB (D.drop (D.length - x)) : Int) ∧ wq = wr) (fun _ j _ => (intOf j + 1 - (k : Int)).toNat)
                  case atStart => exact ⟨0, Nat.zero_le _, by simp, by rw [Nat.sub_zero, List.drop_length]; rfl, rfl⟩
                  case round =>
                    obtain ⟨x, hx, rfl, rfl, hw⟩ := hrel
                    subst hw
                    by_cases hxl : x < D.length
                    · obtain ⟨t, ht⟩ : ∃ t : Nat, t = m - x := ⟨_, rfl⟩
                      have htm : (m : Int) - (x : Int) = (t : Int) := by omega
                      rw [htm]
                      have HTM := Hid.mk htm
                      have hct := HC.out t (by omega)
                      obtain ⟨u, hu⟩ : ∃ u, u = (bs.getD t 0).toNat := ⟨_, rfl⟩
                      rw [← hu] at hct
                      have hu256 : u < 256 := by rw [hu]; exact UInt8.toNat_lt _
                      have hsg : Hid (valB (D.drop (D.length - (x + 1))) = valB (D.drop (D.length - x)) * 128 + u % 128) := by unfold Hid; rw [seg hxl, hDg.out _ (by omega), show k + (D.length - (x + 1)) = t by omega, ← hu]
                      clear hu
                      have hZ35 := seg_lt (D.length - x) hD5
                      obtain ⟨Zx, hZx⟩ : ∃ Zx, Zx = valB (D.drop (D.length - x)) := ⟨_, rfl⟩
                      rw [← hZx] at hsg hZ35 ⊢
                      clear hZx
                      have q6 : (k : Int) ≤ (t : Int) := by omega
                      have t0 : (0 : Int) ≤ (t : Int) := by omega
                      have t1 : (t : Int) < (n : Int) := by omega
                      clear ht htm
                      go_wp2
                      refine ⟨⟨x + 1, by omega, congrArg (Value.int .i64) (by have := HTM.out; omega), ?_, by first | rfl | trivial⟩, by have := HTM.out; simp [intOf]; omega⟩
                      rw [hsg.out]
                      go_num
                    · have hxe : x = D.length := by omega
                      rw [hxe, Nat.sub_self, List.drop_zero]
                      have hZ35 : valB D < 2 ^ 35 := by have := seg_lt (D := D) 0 hD5; rw [List.drop_zero] at this; exact this
                      obtain ⟨Z, hZ⟩ : ∃ Z, Z = valB D := ⟨_, rfl⟩
                      rw [← hZ] at hone hZ35 ⊢
                      clear hZ
                      have q6 : decide ((k : Int) ≤ (m : Int) - (D.length : Int)) = false := by simp; omega
                      by_cases hev : Z % 2 = 0
                      · have q7 : ((Z : Int) % 2 == 0) = true := by simp; omega
                        have hpa : Hid (pre.length + 1 ≤ 1048577) := by unfold Hid; rw [← HP.out]; omega
                        have hbsz := hb.out.size
                        obtain ⟨zz, hzz⟩ : ∃ zz : Int, zz = unz Z := ⟨_, rfl⟩
                        have hzv : zz = (Z : Int) / 2 := by rw [hzz]; unfold unz; rw [if_neg (by omega)]; omega
                        have HZZ := Hid.mk hzz
                        clear hzz
                        go_wp2_with (at_builtin; refine wpList_append_own _ rfl _ _ 86 rfl w.heap.size 2 i0 (.int .i64 0) 1 8 Tryd.underlying86 hi hz0 hz1 hz2 rfl (by decide) _ _ _ rfl (ho.out.alloc _) ⟨wr.heap.size, 0, none⟩ 1 1 [.int .i64 ((Z : Int) / 2)] rfl rfl (news_at' wr _ 2) (by intro u hu; simp only [List.mem_cons, List.not_mem_nil, or_false] at hu; rcases hu with rfl; rfl) (by unfold maxLen; omega) (by omega) (by simp; omega) ?_)
                        intro v6 w6 hown6 hgrow6 _
                        have hbl : Below w.heap.size wr w6 := ((Below.refl _ _).alloc hbsz _).grown hgrow6 (by simp; omega) (fun j hj => (ho.out.lt j hj).1)
                        have O6 : Hid (w6.ownsRow w.heap.size 2 1 v6 (pre ++ [unz Z]).length (ints (pre ++ [unz Z]))) := by unfold Hid; rw [List.length_append, List.length_singleton, ← HP.out, ints_app, ← HZZ.out]; first | exact hown6 | (rw [hzv]; exact hown6)
                        have B6 := Hid.mk (hb.out.trans hbl)
                        clear hown6 hgrow6 hbl ho
                        obtain ⟨va6, vc6, hv6⟩ := row_shape2 O6.out
                        rw [hv6] at O6 ⊢
                        clear hv6
                        refine Hid.out ?_
                        refine Lib.hid ?_
                        go_wp2
                        refine ⟨⟨m + 1, pre ++ [unz Z], by omega, by rw [List.length_append, List.length_singleton, ← HP.out]; omega, by go_num, O6, ?_, B6⟩, by simp [intOf]; omega⟩
                        have := live_step hv.out hone.out
                        rw [List.drop_drop, show k + (m - k + 1) = m + 1 by omega] at this
                        exact this
                      · have q7 : ((Z : Int) % 2 == 0) = false := by simp; omega
                        have hpa : Hid (pre.length + 1 ≤ 1048577) := by unfold Hid; rw [← HP.out]; omega
                        have hbsz := hb.out.size
                        obtain ⟨zz, hzz⟩ : ∃ zz : Int, zz = unz Z := ⟨_, rfl⟩
                        have hzv : wrap64 (-((Z : Int) + 1).tdiv 2) = zz := by rw [hzz]; unfold unz; rw [if_pos (by omega), Int.tdiv_eq_ediv_of_nonneg (by omega)]; unfold wrap64; omega
                        have HZZ := Hid.mk hzz
                        clear hzz
                        go_wp2_with (at_builtin; refine wpList_append_own _ rfl _ _ 86 rfl w.heap.size 2 i0 (.int .i64 0) 1 8 Tryd.underlying86 hi hz0 hz1 hz2 rfl (by decide) _ _ _ rfl (ho.out.alloc _) ⟨wr.heap.size, 0, none⟩ 1 1 [.int .i64 (zz)] rfl rfl (news_at' wr _ 2) (by intro u hu; simp only [List.mem_cons, List.not_mem_nil, or_false] at hu; rcases hu with rfl; rfl) (by unfold maxLen; omega) (by omega) (by simp; omega) ?_)
                        intro v6 w6 hown6 hgrow6 _
                        have hbl : Below w.heap.size wr w6 := ((Below.refl _ _).alloc hbsz _).grown hgrow6 (by simp; omega) (fun j hj => (ho.out.lt j hj).1)
                        have O6 : Hid (w6.ownsRow w.heap.size 2 1 v6 (pre ++ [unz Z]).length (ints (pre ++ [unz Z]))) := by unfold Hid; rw [List.length_append, List.length_singleton, ← HP.out, ints_app, ← HZZ.out]; first | exact hown6 | (rw [hzv]; exact hown6)
                        have B6 := Hid.mk (hb.out.trans hbl)
                        clear hown6 hgrow6 hbl ho
                        obtain ⟨va6, vc6, hv6⟩ := row_shape2 O6.out
                        rw [hv6] at O6 ⊢
                        clear hv6
                        refine Hid.out ?_
                        refine Lib.hid ?_
                        go_wp2
                        refine ⟨⟨m + 1, pre ++ [unz Z], by omega, by rw [List.length_append, List.length_singleton, ← HP.out]; omega, by go_num, O6, ?_, B6⟩, by simp [intOf]; omega⟩
                        have := live_step hv.out hone.out
                        rw [List.drop_drop, show k + (m - k + 1) = m + 1 by omega] at this
                        exact this
                · have q4 : decide ((k : Int) < (m : Int)) = false := by simp; omega
                  go_wp2
                  go_loopw [7, 8] (fun z j wq => ∃ x : Nat, x ≤ D.length ∧ j = .int .i64 ((m : Int) - (x : Int)) ∧ z = .int .i64 (valB (D.drop (D.length - x)) : Int) ∧ wq = wr) (fun _ j _ => (intOf j + 1 - (k : Int)).toNat)
                  case atStart => exact ⟨0, Nat.zero_le _, by simp, by rw [Nat.sub_zero, List.drop_length]; rfl, rfl⟩
                  case round =>
                    obtain ⟨x, hx, rfl, rfl, hw⟩ := hrel
                    subst hw
                    by_cases hxl : x < D.length
                    · obtain ⟨t, ht⟩ : ∃ t : Nat, t = m - x := ⟨_, rfl⟩
                      have htm : (m : Int) - (x : Int) = (t : Int) := by omega
                      rw [htm]
                      have HTM := Hid.mk htm
                      have hct := HC.out t (by omega)
                      obtain ⟨u, hu⟩ : ∃ u, u = (bs.getD t 0).toNat := ⟨_, rfl⟩
                      rw [← hu] at hct
                      have hu256 : u < 256 := by rw [hu]; exact UInt8.toNat_lt _
                      have hsg : Hid (valB (D.drop (D.length - (x + 1))) = valB (D.drop (D.length - x)) * 128 + u % 128) := by unfold Hid; rw [seg hxl, hDg.out _ (by omega), show k + (D.length - (x + 1)) = t by omega, ← hu]
                      clear hu
                      have hZ35 := seg_lt (D.length - x) hD5
                      obtain ⟨Zx, hZx⟩ : ∃ Zx, Zx = valB (D.drop (D.length - x)) := ⟨_, rfl⟩
                      rw [← hZx] at hsg hZ35 ⊢
                      clear hZx
                      have q6 : (k : Int) ≤ (t : Int) := by omega
                      have t0 : (0 : Int) ≤ (t : Int) := by omega
                      have t1 : (t : Int) < (n : Int) := by omega
                      clear ht htm
                      go_wp2
                      refine ⟨⟨x + 1, by omega, congrArg (Value.int .i64) (by have := HTM.out; omega), ?_, by first | rfl | trivial⟩, by have := HTM.out; simp [intOf]; omega⟩
                      rw [hsg.out]
                      go_num
                    · have hxe : x = D.length := by omega
                      rw [hxe, Nat.sub_self, List.drop_zero]
                      have hZ35 : valB D < 2 ^ 35 := by have := seg_lt (D := D) 0 hD5; rw [List.drop_zero] at this; exact this
                      obtain ⟨Z, hZ⟩ : ∃ Z, Z = valB D := ⟨_, rfl⟩
                      rw [← hZ] at hone hZ35 ⊢
                      clear hZ
                      have q6 : decide ((k : Int) ≤ (m : Int) - (D.length : Int)) = false := by simp; omega
                      by_cases hev : Z % 2 = 0
                      · have q7 : ((Z : Int) % 2 == 0) = true := by simp; omega
                        have hpa : Hid (pre.length + 1 ≤ 1048577) := by unfold Hid; rw [← HP.out]; omega
                        have hbsz := hb.out.size
                        obtain ⟨zz, hzz⟩ : ∃ zz : Int, zz = unz Z := ⟨_, rfl⟩
                        have hzv : zz = (Z : Int) / 2 := by rw [hzz]; unfold unz; rw [if_neg (by omega)]; omega
                        have HZZ := Hid.mk hzz
                        clear hzz
                        go_wp2_with (at_builtin; refine wpList_append_own _ rfl _ _ 86 rfl w.heap.size 2 i0 (.int .i64 0) 1 8 Tryd.underlying86 hi hz0 hz1 hz2 rfl (by decide) _ _ _ rfl (ho.out.alloc _) ⟨wr.heap.size, 0, none⟩ 1 1 [.int .i64 ((Z : Int) / 2)] rfl rfl (news_at' wr _ 2) (by intro u hu; simp only [List.mem_cons, List.not_mem_nil, or_false] at hu; rcases hu with rfl; rfl) (by unfold maxLen; omega) (by omega) (by simp; omega) ?_)
                        intro v6 w6 hown6 hgrow6 _
                        have hbl : Below w.heap.size wr w6 := ((Below.refl _ _).alloc hbsz _).grown hgrow6 (by simp; omega) (fun j hj => (ho.out.lt j hj).1)
                        have O6 : Hid (w6.ownsRow w.heap.size 2 1 v6 (pre ++ [unz Z]).length (ints (pre ++ [unz Z]))) := by unfold Hid; rw [List.length_append, List.length_singleton, ← HP.out, ints_app, ← HZZ.out]; first | exact hown6 | (rw [hzv]; exact hown6)
                        have B6 := Hid.mk (hb.out.trans hbl)
                        clear hown6 hgrow6 hbl ho
                        obtain ⟨va6, vc6, hv6⟩ := row_shape2 O6.out
                        rw [hv6] at O6 ⊢
                        clear hv6
                        refine Hid.out ?_
                        refine Lib.hid ?_
                        go_wp2
                        refine ⟨⟨m + 1, pre ++ [unz Z], by omega, by rw [List.length_append, List.length_singleton, ← HP.out]; omega, by go_num, O6, ?_, B6⟩, by simp [intOf]; omega⟩
                        have := live_step hv.out hone.out
                        rw [List.drop_drop, show k + (m - k + 1) = m + 1 by omega] at this
                        exact this
                      · have q7 : ((Z : Int) % 2 == 0) = false := by simp; omega
                        have hpa : Hid (pre.length + 1 ≤ 1048577) := by unfold Hid; rw [← HP.out]; omega
                        have hbsz := hb.out.size
                        obtain ⟨zz, hzz⟩ : ∃ zz : Int, zz = unz Z := ⟨_, rfl⟩
                        have hzv : wrap64 (-((Z : Int) + 1).tdiv 2) = zz := by rw [hzz]; unfold unz; rw [if_pos (by omega), Int.tdiv_eq_ediv_of_nonneg (by omega)]; unfold wrap64; omega
                        have HZZ := Hid.mk hzz
                        clear hzz
                        go_wp2_with (at_builtin; refine wpList_append_own _ rfl _ _ 86 rfl w.heap.size 2 i0 (.int .i64 0) 1 8 Tryd.underlying86 hi hz0 hz1 hz2 rfl (by decide) _ _ _ rfl (ho.out.alloc _) ⟨wr.heap.size, 0, none⟩ 1 1 [.int .i64 (zz)] rfl rfl (news_at' wr _ 2) (by intro u hu; simp only [List.mem_cons, List.not_mem_nil, or_false] at hu; rcases hu with rfl; rfl) (by unfold maxLen; omega) (by omega) (by simp; omega) ?_)
                        intro v6 w6 hown6 hgrow6 _
                        have hbl : Below w.heap.size wr w6 := ((Below.refl _ _).alloc hbsz _).grown hgrow6 (by simp; omega) (fun j hj => (ho.out.lt j hj).1)
                        have O6 : Hid (w6.ownsRow w.heap.size 2 1 v6 (pre ++ [unz Z]).length (ints (pre ++ [unz Z]))) := by unfold Hid; rw [List.length_append, List.length_singleton, ← HP.out, ints_app, ← HZZ.out]; first | exact hown6 | (rw [hzv]; exact hown6)
                        have B6 := Hid.mk (hb.out.trans hbl)
                        clear hown6 hgrow6 hbl ho
                        obtain ⟨va6, vc6, hv6⟩ := row_shape2 O6.out
                        rw [hv6] at O6 ⊢
                        clear hv6
                        refine Hid.out ?_
                        refine Lib.hid ?_
                        go_wp2
                        refine ⟨⟨m + 1, pre ++ [unz Z], by omega, by rw [List.length_append, List.length_singleton, ← HP.out]; omega, by go_num, O6, ?_, B6⟩, by simp [intOf]; omega⟩
                        have := live_step hv.out hone.out
                        rw [List.drop_drop, show k + (m - k + 1) = m + 1 by omega] at this
                        exact this
        · obtain rfl : n = m := by omega
          have q0 : decide ((n : Int) < (n : Int)) = false := by simp
          go_wp2
          go_ret2
          refine ⟨false, _, pre, rfl, by rw [← HP.out]; exact ho.out, hb.out, by rw [← HP.out]; omega, fun e => (nomatch e), fun _ => ?_⟩
          exact live_dead hv.out (by have := HN.out; omega) (none_end (by have := HN.out; omega) (fun i h1 h2 => hhi.out i h1 (by have := HN.out; omega)))
    · obtain rfl : k = n := by omega
      have k1 : decide ((k : Int) < (k : Int)) = false := by simp
      go_wp2
      go_ret2
      refine ⟨true, _, pre, rfl, by rw [← HP.out]; exact ho.out, hb.out, by rw [← HP.out]; exact hp, fun _ => ?_, fun e => (nomatch e)⟩
      have := hv.out
      unfold Live at this
      rw [HN.out, List.drop_length, nums_nil] at this
      rw [this]; simp
end Go.Proofs.YtdhnjkcebaahcaaDoor.Dec
