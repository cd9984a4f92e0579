import Derived.Test.YtdhnjkcebaahcaaDoorConv
import Derived.Deep.RegionHeld3
import Derived.Deep.DrawnRows
namespace Go.Proofs.YtdhnjkcebaahcaaDoor.Print
open Go Go.RowKit Go.Proofs.YtdhnjkcebaahcaaDoor.Mem
set_option linter.unusedVariables false
set_option linter.unusedSimpArgs false
attribute [local go_sem ↓] Go.wp_at_zero Go.wp_at_succ

set_option maxHeartbeats 1600000 in
set_option maxRecDepth 100000 in
theorem tagTextS (s : Int) (w : World) (h0 : 0 ≤ s) (h1 : s ≤ 65535) : Calls Tryd.prog 68 #[.int .i64 s] w fun e w' => ∃ g o n c, e = .returned (.slice (some ⟨g, o, none⟩) n c) ∧ w.heap.size ≤ g ∧ Rb w' g o n (tagText s) ∧ Below w.heap.size w w' := by
  obtain ⟨i0, hi, hz0, hz1, hz2⟩ := info_parts infoB
  have kc := fun (w : World) (C : Array Value) (n c : Nat) => Lib.run_convert_bytes_const (P := Tryd.prog) w 28 5 C n c Tryd.underlying28 Tryd.underlying5
  go_enter Tryd.func68, Tryd.ntmps68
  go_wp2
  go_loopw [3, 4] (fun v i wr => ∃ k : Nat, k ≤ 16 ∧ i = .int .i64 k ∧ Hid (Own w.heap.size wr v (tg s k)) ∧ Hid (Below w.heap.size w wr)) (fun _ i _ => 16 - (intOf i).toNat)
  case atStart => exact ⟨0, by omega, rfl, own_empty w _ rfl, (Below.refl _ _).alloc (Nat.le_refl _) _⟩
  case round =>
    obtain ⟨k, hk, rfl, ho, hb⟩ := hrel
    have hl := tg_len s k
    obtain ⟨a, c, hv⟩ := Own.shape ho.out
    rw [hv] at ho ⊢
    clear hv
    by_cases hlt : k < 16
    · have k0 : (0 : Int) ≤ (k : Int) := by omega
      have k1 : (k : Int) < 16 := by omega
      have HU := Hid.mk (u8_letter k hlt)
      cases hbt : bit s k with
      | false =>
        have hq : ((s / 2 ^ k).tmod 2 == 1) = false := by rw [bit_eq s k h0]; exact hbt
        have ho' : Hid (Own w.heap.size wr (.slice a (tg s k).length c) (tg s (k + 1))) := by rw [tg_no hbt]; exact ho
        clear hbt
        go_wp2
        exact ⟨⟨k + 1, by omega, by go_num, ho', hb⟩, by simp [intOf]; omega⟩
      | true =>
        have hq : ((s / 2 ^ k).tmod 2 == 1) = true := by rw [bit_eq s k h0]; exact hbt
        have htg := Hid.mk (tg_yes hbt)
        clear hbt
        go_wp2_with (at_builtin; refine wpList_append_own _ rfl _ _ 28 rfl w.heap.size 5 i0 (.int .u8 0) 1 1 Tryd.underlying28 hi hz0 hz1 hz2 rfl (by decide) _ _ _ rfl (ho.out.alloc _) ⟨wr.heap.size, 0, none⟩ 1 1 [Value.int .u8 (97 + k)] rfl rfl (by intro j u' hj; match j, hj with | 0, hj => simp at hj; subst hj; simp [Addr.add]) (by intro u' hu'; simp at hu'; subst hu'; rfl) (by unfold maxLen; omega) (by omega) (by have := hb.out.size; simp; omega) ?_)
        intro v2 w2 hown2 hgrow _
        have hb2 : Hid (Below w.heap.size w w2) := (hb.out.alloc hb.out.size _).grown hgrow (by have := hb.out.size; simp; omega) (fun k hk => (ho.out.lt k hk).1)
        have ho2 : Hid (Own w.heap.size w2 v2 (tg s (k + 1))) := by rw [htg.out]; exact own_snoc HU.out hown2
        clear hown2 hgrow
        go_wp2
        exact ⟨⟨k + 1, by omega, by go_num, ho2, hb2⟩, by simp [intOf]; omega⟩
    · obtain rfl : k = 16 := by omega
      by_cases hn : tg s 16 = []
      · have HT : Hid (tagText s = [45]) := by unfold Hid tagText; rw [if_pos hn]
        have hln : (tg s 16).length = 0 := by rw [hn]; rfl
        rw [hln]
        clear hn hln
        go_wp2
        go_ret
        exact ⟨_, _, _, _, rfl, hb.out.size, by rw [HT.out]; exact Rb.new _ [45] _ _ _ rfl, hb.out.alloc hb.out.size _⟩
      · have hln : (((tg s 16).length : Int) == 0) = false := by
          simp; exact hn
        have HT : Hid (tagText s = tg s 16) := by unfold Hid tagText; rw [if_neg hn]
        have hp : 0 < (tg s 16).length := List.length_pos_iff.2 hn
        clear hn
        obtain ⟨g, o, n, c', hv, hg, hr⟩ := Own.rb ho.out hp
        have HR := Hid.mk hr
        have HG := Hid.mk hg
        clear hr hg
        injection hv with hv1 hv2 hv3
        subst hv1
        subst hv3
        have hv2' := Hid.mk hv2
        clear hv2
        go_wp2
        go_ret
        exact ⟨_, _, _, _, rfl, HG.out, by rw [HT.out, hv2'.out]; exact HR.out, hb.out⟩

set_option maxHeartbeats 3200000 in
set_option maxRecDepth 100000 in
theorem placeFieldsS (x y o c h : Int) (w : World) (b0 : -1000000000 ≤ x ∧ x ≤ 1000000000) (b1 : -1000000000 ≤ y ∧ y ≤ 1000000000) (b2 : -1000000000 ≤ o ∧ o ≤ 1000000000) (b3 : -1000000000 ≤ c ∧ c ≤ 1000000000) (b4 : -1000000000 ≤ h ∧ h ≤ 1000000000) :
    Calls Tryd.prog 69 #[.agg #[.int .i64 x, .int .i64 y, .int .i64 o, .int .i64 c, .int .i64 h]] w fun e w' => ∃ g v1 v2 v3 v4 v5, e = .returned (.slice (some ⟨g, 0, none⟩) 5 5) ∧ w'.heap[g]? = some (.cells #[v1, v2, v3, v4, v5] 28) ∧ FVs w.heap.size w' [v1, v2, v3, v4, v5] [Lib.itoa x, Lib.itoa y, Lib.itoa o, Lib.itoa c, Lib.itoa h] ∧ Below w.heap.size w w' := by
  go_enter Tryd.func69, Tryd.ntmps69
  go_wp2
  go_region_held3 (fun w' => w'.cell? ⟨w.heap.size, 0, none⟩ = some (.int .i64 x) ∧ w'.cell? ⟨w.heap.size, 1, none⟩ = some (.int .i64 y) ∧ w'.cell? ⟨w.heap.size, 2, none⟩ = some (.int .i64 o) ∧ w'.cell? ⟨w.heap.size, 3, none⟩ = some (.int .i64 c) ∧ w'.cell? ⟨w.heap.size, 4, none⟩ = some (.int .i64 h)) (first | go_keep | ((repeat' constructor) <;> exact cell_keep hb1 (by first | assumption | (simp [*]; done)))) ((go_at_call 67; refine (decimalR _ _ (by omega) (by omega)).mono ?_; rintro e w1 ⟨g1, o1, n1, c1, rfl, hg1, hr1, hb1⟩; have hz1 := hb1.size; (try simp only [size_drew, World.size_alloc] at hg1 hz1)))
  go_wp2
  go_ret
  refine ⟨_, _, _, _, _, _, rfl, blk_new _ _, ⟨⟨_, _, _, _, rfl, by omega, ?_⟩, ⟨_, _, _, _, rfl, by omega, ?_⟩, ⟨_, _, _, _, rfl, by omega, ?_⟩, ⟨_, _, _, _, rfl, by omega, ?_⟩, ⟨_, _, _, _, rfl, by omega, ?_⟩, trivial⟩, ?_⟩
  · refine Rb.alloc ?_ _; repeat (first | assumption | (refine Rb.below ?_ (by assumption)))
  · refine Rb.alloc ?_ _; repeat (first | assumption | (refine Rb.below ?_ (by assumption)))
  · refine Rb.alloc ?_ _; repeat (first | assumption | (refine Rb.below ?_ (by assumption)))
  · refine Rb.alloc ?_ _; repeat (first | assumption | (refine Rb.below ?_ (by assumption)))
  · refine Rb.alloc ?_ _; repeat (first | assumption | (refine Rb.below ?_ (by assumption)))
  · refine below_alloc' ?_ _; repeat (first | (refine below_then ?_ (by assumption)))
    exact Below.drew ((Below.refl _ _).alloc (Nat.le_refl _) _)


set_option maxHeartbeats 3200000 in
set_option maxRecDepth 100000 in
theorem joinS (L : List (List UInt8)) (vs : List Value) (g off c : Nat) (w : World) (hvs : FVs 0 w vs L) (hc : ∀ j u, vs[j]? = some u → w.cell? ((⟨g, off, none⟩ : Addr).add j) = some u) (hL : L.length ≤ 20) (hb : ∀ b ∈ L, b.length ≤ 40) :
    Calls Tryd.prog 70 #[.slice (some ⟨g, off, none⟩) L.length c] w fun e w' => ∃ v, e = .returned v ∧ Own w.heap.size w' v (line L) ∧ Below w.heap.size w w' := by
  obtain ⟨i0, hi, hz0, hz1, hz2⟩ := info_parts infoB
  have HF := Hid.mk hvs
  have HC := Hid.mk hc
  have HJ := Hid.mk (fun k hk => jn_len hb k hk)
  have HB := Hid.mk hb
  clear hvs hc hb
  obtain ⟨N, hN⟩ : ∃ N, N = L.length := ⟨_, rfl⟩
  have HN := Hid.mk hN
  rw [← hN] at hL ⊢
  clear hN
  go_enter Tryd.func70, Tryd.ntmps70
  go_wp2
  go_loopw [3, 4] (fun v i wr => ∃ k : Nat, k ≤ N ∧ i = .int .i64 k ∧ Hid (Own w.heap.size wr v (jn L k)) ∧ Hid (Below w.heap.size w wr)) (fun _ i _ => N - (intOf i).toNat)
  case atStart => exact ⟨0, by omega, rfl, own_empty w _ rfl, (Below.refl _ _).alloc (Nat.le_refl _) _⟩
  case round =>
    obtain ⟨k, hk, rfl, ho, hb⟩ := hrel
    have hl := HJ.out k (by rw [← HN.out]; exact hk)
    obtain ⟨a, ca, hv⟩ := Own.shape ho.out
    rw [hv] at ho ⊢
    clear hv
    by_cases hlt : k < N
    · have hkl : k < L.length := by rw [← HN.out]; exact hlt
      obtain ⟨u, hu, gg, oo, nn, cc, rfl, -, hrb⟩ := FVs.get HF.out k hkl
      have hcell := cell_keep hb.out (HC.out k _ hu)
      rw [Addr.add_mid] at hcell
      have hln : nn ≤ 40 := by rw [hrb.1]; exact HB.out _ (List.getElem_mem _)
      have hs : Hid (jn L (k + 1) = (if k = 0 then jn L k else jn L k ++ [32]) ++ L[k]) := by
        unfold Hid; rw [jn, getD_get hkl]
      have HR0 := Hid.mk hrb
      have HR := Hid.mk (hrb.below hb.out)
      have HU := Hid.mk hu
      clear hu hrb
      have k0 : (0 : Int) ≤ (k : Int) := by omega
      have k1 : (k : Int) < (N : Int) := by omega
      by_cases hz : k = 0
      · have hz' : decide (0 < k) = false := by simp; omega
        have hs' : Hid (jn L (k + 1) = jn L k ++ L[k]) := by unfold Hid; rw [hs.out, if_pos hz]
        clear hs
        have HZ := Hid.mk hz
        clear hz
        go_wp2_with (at_builtin; refine wpList_append_own _ rfl _ _ 28 rfl w.heap.size 5 i0 (.int .u8 0) 1 1 Tryd.underlying28 hi hz0 hz1 hz2 rfl (by decide) _ _ _ rfl ho.out ⟨gg, oo, none⟩ nn cc (Lib.byteCells L[k]) rfl (by simp [Lib.byteCells]; exact HR.out.1.symm) HR.out.2.2 (byteCells_one _) (by unfold maxLen; omega) (by omega) (by have := hb.out.size; omega) ?_)
        intro v2 w2 hown2 hgrow _
        have hb2 : Hid (Below w.heap.size w w2) := hb.out.grown hgrow hb.out.size (fun k hk => (ho.out.lt k hk).1)
        have ho2 : Hid (Own w.heap.size w2 v2 (jn L (k + 1))) := by rw [hs'.out]; exact own_app HR.out.1 hown2
        clear hown2 hgrow
        go_wp2
        exact ⟨⟨k + 1, by omega, by go_num, ho2, hb2⟩, by simp [intOf]; omega⟩
      · have hz' : decide (0 < k) = true := by simp; omega
        have hs' : Hid (jn L (k + 1) = (jn L k ++ [32]) ++ L[k]) := by unfold Hid; rw [hs.out, if_neg hz]
        clear hs
        have HZ := Hid.mk hz
        clear hz
        go_wp2_with (at_builtin; refine wpList_append_own _ rfl _ _ 28 rfl w.heap.size 5 i0 (.int .u8 0) 1 1 Tryd.underlying28 hi hz0 hz1 hz2 rfl (by decide) _ _ _ rfl (ho.out.alloc _) ⟨wr.heap.size, 0, none⟩ 1 1 [Value.int .u8 32] rfl rfl (by intro j u' hj; match j, hj with | 0, hj => simp at hj; subst hj; simp [Addr.add]) (by intro u' hu'; simp at hu'; subst hu'; rfl) (by unfold maxLen; omega) (by omega) (by have := hb.out.size; simp; omega) ?_)
        intro v2 w2 hown2 hgrow _
        have hb2 : Hid (Below w.heap.size w w2) := (hb.out.alloc hb.out.size _).grown hgrow (by have := hb.out.size; simp; omega) (fun k hk => (ho.out.lt k hk).1)
        have ho2 : Hid (Own w.heap.size w2 v2 (jn L k ++ [32])) := own_snoc rfl hown2
        have hcell2 := cell_keep hb2.out (HC.out k _ HU.out)
        rw [Addr.add_mid] at hcell2
        have HR2 := Hid.mk (HR0.out.below hb2.out)
        obtain ⟨a2, ca2, hv⟩ := Own.shape ho2.out
        rw [hv] at ho2 ⊢
        clear hown2 hgrow hv hcell
        rw [List.length_append, List.length_singleton] at ho2 ⊢
        go_wp2_with (at_builtin; refine wpList_append_own _ rfl _ _ 28 rfl w.heap.size 5 i0 (.int .u8 0) 1 1 Tryd.underlying28 hi hz0 hz1 hz2 rfl (by decide) _ _ _ rfl ho2.out ⟨gg, oo, none⟩ nn cc (Lib.byteCells L[k]) rfl (by simp [Lib.byteCells]; exact HR.out.1.symm) HR2.out.2.2 (byteCells_one _) (by rw [List.length_append, List.length_singleton]; unfold maxLen; omega) (by rw [List.length_append, List.length_singleton]; omega) (by have := hb2.out.size; omega) ?_)
        intro v3 w3 hown3 hgrow3 _
        have hb3 : Hid (Below w.heap.size w w3) := hb2.out.grown hgrow3 hb2.out.size (fun k hk => (ho2.out.lt k hk).1)
        have ho3 : Hid (Own w.heap.size w3 v3 (jn L (k + 1))) := by rw [hs'.out]; refine own_app HR.out.1 ?_; rw [List.length_append, List.length_singleton]; exact hown3
        clear hown3 hgrow3
        go_wp2
        exact ⟨⟨k + 1, by omega, by go_num, ho3, hb3⟩, by simp [intOf]; omega⟩
    · obtain rfl : k = N := by omega
      go_wp2_with (at_builtin; refine wpList_append_own _ rfl _ _ 28 rfl w.heap.size 5 i0 (.int .u8 0) 1 1 Tryd.underlying28 hi hz0 hz1 hz2 rfl (by decide) _ _ _ rfl (ho.out.alloc _) ⟨wr.heap.size, 0, none⟩ 1 1 [Value.int .u8 10] rfl rfl (by intro j u' hj; match j, hj with | 0, hj => simp at hj; subst hj; simp [Addr.add]) (by intro u' hu'; simp at hu'; subst hu'; rfl) (by unfold maxLen; omega) (by omega) (by have := hb.out.size; simp; omega) ?_)
      intro v2 w2 hown2 hgrow _
      have hb2 : Hid (Below w.heap.size w w2) := (hb.out.alloc hb.out.size _).grown hgrow (by have := hb.out.size; simp; omega) (fun k hk => (ho.out.lt k hk).1)
      have ho2 : Hid (Own w.heap.size w2 v2 (line L)) := by unfold line; rw [← HN.out]; exact own_snoc rfl hown2
      clear hown2 hgrow
      go_wp2
      go_ret
      exact ⟨_, rfl, ho2.out, hb2.out⟩

theorem joinN (L : List (List UInt8)) (vs : List Value) (g off c n : Nat) (w : World) (hn : n = L.length) (hvs : FVs 0 w vs L) (hc : ∀ j u, vs[j]? = some u → w.cell? ((⟨g, off, none⟩ : Addr).add j) = some u) (hL : L.length ≤ 20) (hb : ∀ b ∈ L, b.length ≤ 40) :
    Calls Tryd.prog 70 #[.slice (some ⟨g, off, none⟩) n c] w fun e w' => ∃ g o n c, e = .returned (.slice (some ⟨g, o, none⟩) n c) ∧ Rb w' g o n (line L) ∧ Below w.heap.size w w' := by
  subst hn
  refine (joinS L vs g off c w hvs hc hL hb).mono ?_
  rintro e w1 ⟨v, rfl, ho, hb⟩
  obtain ⟨g, o, n, c, rfl, -, hr⟩ := Own.rb ho (line_pos L)
  exact ⟨g, o, n, c, rfl, hr, hb⟩
end Go.Proofs.YtdhnjkcebaahcaaDoor.Print
