import Derived.Test.YtdhnjkcebaahcaaDoorEncB
import Derived.Test.YtdhnjkcebaahcaaDoorValCT
import Derived.Deep.DrawnRows
namespace Go.Proofs.YtdhnjkcebaahcaaDoor.Enc
open Go Go.RowKit Go.Proofs.YtdhnjkcebaahcaaDoor.Mem Go.Proofs.YtdhnjkcebaahcaaDoor.ValC
set_option linter.unusedVariables false
set_option linter.unusedSimpArgs false
attribute [local go_sem ↓] Go.wp_at_zero Go.wp_at_succ

theorem u8_of' (m : Nat) (h : m < 256) : ((UInt8.ofNat m).toNat : Int) = (m : Int) := by rw [UInt8.toNat_ofNat']; omega

set_option maxHeartbeats 1600000 in
set_option maxRecDepth 100000 in
theorem groupsS : ∀ (k : Nat) (z : Nat) (w : World), z ≤ k → z < 2 ^ 32 → Calls Tryd.prog 86 #[.int .i64 (z : Int)] w fun e w' => ∃ v, e = .returned v ∧ Own w.heap.size w' v (grp z) ∧ Below w.heap.size w w' := by
  intro k
  induction k with
  | zero =>
    intro z w hk hn
    obtain rfl : z = 0 := by omega
    go_enter Tryd.func86, Tryd.ntmps86
    go_wp2
    go_ret
    exact ⟨_, rfl, by rw [grp_lo (by omega)]; exact own_new w _ _ rfl (by simp), by go_grown⟩
  | succ m ih =>
    intro z w hk hn
    by_cases hlt : z < 128
    · rw [grp_lo hlt]
      have HU := Hid.mk (u8_of' z (by omega))
      have q1 : (z : Int) < 128 := by omega
      go_enter Tryd.func86, Tryd.ntmps86
      go_wp2
      go_ret
      refine ⟨_, rfl, own_new w _ _ ?_ (by simp), by go_grown⟩
      have := HU.out
      simp [Lib.byteCells]; omega
    · have HD := Hid.mk (grp_len 4 (z / 128) (by omega))
      have HU := Hid.mk (u8_of' (128 + z % 128) (by omega))
      obtain ⟨i0, hi, hz0, hz1, hz2⟩ := info_parts infoB
      have q1 : decide ((z : Int) < 128) = false := by simp; omega
      have hdv : (z : Int) / 128 = ((z / 128 : Nat) : Int) := by omega
      have IH : Hid (∀ w : World, Calls Tryd.prog 86 #[.int .i64 ((z : Int) / 128)] w fun e w' => ∃ v, e = .returned v ∧ Own w.heap.size w' v (grp (z / 128)) ∧ Below w.heap.size w w') := fun w => by rw [hdv]; exact ih (z / 128) w (by omega) (by omega)
      have hg0 := grp_pos (z / 128)
      have hn0 : Own w.heap.size (w.alloc (.cells #[.int .u8 (128 + (z : Int) % 128)] 5)) (.slice (some ⟨w.heap.size, 0, none⟩) 1 1) [UInt8.ofNat (128 + z % 128)] := by
        refine own_new w [UInt8.ofNat (128 + z % 128)] _ ?_ (by simp)
        have := HU.out
        simp only [Lib.byteCells, List.map_cons, List.map_nil, this]
        congr 3
      have HN0 := Hid.mk hn0
      rw [grp_hi hlt]
      obtain ⟨gg, hgg⟩ : ∃ l, l = grp (z / 128) := ⟨_, rfl⟩
      rw [← hgg] at IH hg0 HD ⊢
      obtain ⟨b0, hb0⟩ : ∃ b, b = UInt8.ofNat (128 + z % 128) := ⟨_, rfl⟩
      rw [← hb0] at HN0 ⊢
      clear ih hdv hn0 hgg hb0 HU
      go_enter Tryd.func86, Tryd.ntmps86
      go_wp2_with fail
      refine (IH.out _).mono ?_
      rintro e w1 ⟨v1, rfl, ho1, hb1⟩
      obtain ⟨g, cap, rfl, hg, hcl⟩ := Own.form ho1 hg0
      have HC := Hid.mk hcl
      have HO := Hid.mk (HN0.out.below hb1)
      have HB := Hid.mk (below_then (w := w) (by go_grown) hb1)
      clear ho1 hb1 hcl HN0 IH
      have hsz := HB.out.size
      go_wp2_with (at_builtin; refine wpList_append_own _ rfl _ _ 28 rfl w.heap.size 5 i0 (.int .u8 0) 1 1 Tryd.underlying28 hi hz0 hz1 hz2 rfl (by decide) _ _ _ rfl HO.out ⟨g, 0, none⟩ gg.length cap (Lib.byteCells gg) rfl (by rw [Lib.byteCells_length]; omega) HC.out (byteCells_one gg) (by have := HD.out; simp only [List.length_singleton]; unfold maxLen; omega) (by have := HD.out; simp only [List.length_singleton]; omega) hsz ?_)
      intro v2 w2 hown2 hgrow _
      have hb2 : Below w.heap.size w w2 := HB.out.grown hgrow hsz (fun k hk => (HO.out.lt k hk).1)
      have ho2 : Own w.heap.size w2 v2 (b0 :: gg) := own_app' (bs := [b0]) (cs := gg) rfl rfl hown2
      clear hown2 hgrow
      go_wp2
      go_ret
      exact ⟨v2, rfl, ho2, hb2⟩

set_option maxHeartbeats 1600000 in
theorem varS (n : Int) (w : World) (h0 : -1000000000 ≤ n) (h1 : n ≤ 1000000000) : Calls Tryd.prog 54 #[.int .i64 n] w fun e w' => ∃ v, e = .returned v ∧ Own w.heap.size w' v (vr n) ∧ Below w.heap.size w w' := by
  by_cases hn : n < 0
  · have e1 : (zig n : Int) = -2 * n - 1 := by unfold zig; rw [if_pos hn]; omega
    have hG : Hid (∀ w : World, Calls Tryd.prog 86 #[.int .i64 (-2 * n - 1)] w fun e w' => ∃ v, e = .returned v ∧ Own w.heap.size w' v (vr n) ∧ Below w.heap.size w w') := fun w => by
      rw [show -2 * n - 1 = (zig n : Int) by omega]; exact groupsS (zig n) (zig n) w (Nat.le_refl _) (by omega)
    clear e1
    go_enter Tryd.func54, Tryd.ntmps54
    go_wp2_with fail
    refine (hG.out _).mono ?_
    rintro e w1 ⟨v1, rfl, ho1, hb1⟩
    go_wp2
    go_ret
    exact ⟨v1, rfl, ho1, hb1⟩
  · have e1 : (zig n : Int) = 2 * n := by unfold zig; rw [if_neg hn]; omega
    have hn' : decide (n < 0) = false := by simpa using hn
    have hG : Hid (∀ w : World, Calls Tryd.prog 86 #[.int .i64 (2 * n)] w fun e w' => ∃ v, e = .returned v ∧ Own w.heap.size w' v (vr n) ∧ Below w.heap.size w w') := fun w => by
      rw [show 2 * n = (zig n : Int) by omega]; exact groupsS (zig n) (zig n) w (Nat.le_refl _) (by omega)
    clear e1
    go_enter Tryd.func54, Tryd.ntmps54
    go_wp2_with fail
    refine (hG.out _).mono ?_
    rintro e w1 ⟨v1, rfl, ho1, hb1⟩
    go_wp2
    go_ret
    exact ⟨v1, rfl, ho1, hb1⟩
end Go.Proofs.YtdhnjkcebaahcaaDoor.Enc
