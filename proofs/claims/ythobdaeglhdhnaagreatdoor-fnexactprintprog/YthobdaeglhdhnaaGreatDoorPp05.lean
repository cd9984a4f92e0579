import Derived.Test.YthobdaeglhdhnaaGreatDoorPp04
import Derived.Deep.DrawnRows
namespace Go.Proofs.YthobdaeglhdhnaaGreatDoor.Syn
open Go Go.RowKit Go.Proofs.YthobdaeglhdhnaaGreatDoor.Mem
set_option linter.unusedVariables false
set_option linter.unusedSimpArgs false
attribute [local go_sem ↓] Go.wp_at_zero Go.wp_at_succ

theorem wordByteS (c : UInt8) (w : World) : Calls Tryz.prog 55 #[.int .u8 (c.toNat : Int)] w fun e w' => e = .returned (.bool (wB c)) ∧ w' = w := by
  have hc := c.toNat_lt
  obtain ⟨z, hz⟩ : ∃ z : Int, z = (c.toNat : Int) := ⟨_, rfl⟩
  have hb : wB c = ((decide (97 ≤ z) && decide (z ≤ 122)) || (decide (48 ≤ z) && decide (z ≤ 57)) || z == 95) := by
    rw [Bool.eq_iff_iff]; simp [wB, letB, digB, hz]; omega
  rw [hb, ← hz]
  clear hb
  have z0 : 0 ≤ z := by omega
  have z1 : z < 256 := by omega
  clear hz hc
  have d : (97 ≤ z ∧ z ≤ 122) ∨ (97 ≤ z ∧ ¬ z ≤ 122) ∨ (¬ 97 ≤ z ∧ 48 ≤ z ∧ z ≤ 57) ∨ (¬ 97 ≤ z ∧ 48 ≤ z ∧ ¬ z ≤ 57) ∨ (¬ 97 ≤ z ∧ ¬ 48 ≤ z) := by omega
  rcases d with ⟨h1, h2⟩ | ⟨h1, h2⟩ | ⟨h1, h3, h4⟩ | ⟨h1, h3, h4⟩ | ⟨h1, h3⟩
  · go_enter Tryz.func55, Tryz.ntmps55
    go_wp2
    go_ret
    exact ⟨ret_b (by simp [*]), rfl⟩
  · have d2 : decide (z ≤ 122) = false := by simpa using h2
    have h3 : 48 ≤ z := by omega
    have d4 : decide (z ≤ 57) = false := by simp; omega
    go_enter Tryz.func55, Tryz.ntmps55
    go_wp2
    go_ret
    exact ⟨ret_b (by simp [*]), rfl⟩
  · have d1 : decide (97 ≤ z) = false := by simpa using h1
    go_enter Tryz.func55, Tryz.ntmps55
    go_wp2
    go_ret
    exact ⟨ret_b (by simp [*]), rfl⟩
  · have d1 : decide (97 ≤ z) = false := by simpa using h1
    have d4 : decide (z ≤ 57) = false := by simpa using h4
    go_enter Tryz.func55, Tryz.ntmps55
    go_wp2
    go_ret
    exact ⟨ret_b (by simp [*]), rfl⟩
  · have d1 : decide (97 ≤ z) = false := by simpa using h1
    have d3 : decide (48 ≤ z) = false := by simpa using h3
    go_enter Tryz.func55, Tryz.ntmps55
    go_wp2
    go_ret
    exact ⟨ret_b (by simp [*]), rfl⟩
theorem all_lt {n : List UInt8} {k : Nat} (hk : k < n.length) (h : wB (n[k]) = false) : n.all wB = false := by
  cases ha : n.all wB with
  | false => rfl
  | true => rw [List.all_eq_true] at ha; rw [ha _ (List.getElem_mem hk)] at h; cases h
theorem all_of {n : List UInt8} (h : ∀ j (hj : j < n.length), wB (n[j]) = true) : n.all wB = true := by
  rw [List.all_eq_true]
  intro x hx
  obtain ⟨j, hj, rfl⟩ := List.mem_iff_getElem.1 hx
  exact h j hj

set_option maxHeartbeats 800000 in
theorem isNameS (n : List UInt8) (w : World) : Calls Tryz.prog 39 #[.string ⟨n.toArray⟩] w fun e w' => e = .returned (.bool (nameB n)) ∧ w' = w := by
  by_cases h1 : (n.length : Int) < 1
  · have hv : nameB n = false := by simp [nameB]; omega
    rw [hv]
    clear hv
    go_enter Tryz.func39, Tryz.ntmps39
    go_wp2_with (go_at_call 54; refine (reservedS n _).mono ?_; rintro e w' ⟨rfl, rfl⟩)
    go_ret
    exact ⟨rfl, rfl⟩
  have d1 : decide ((n.length : Int) < 1) = false := by simpa using h1
  by_cases h2 : (16 : Int) < (n.length : Int)
  · have hv : nameB n = false := by simp [nameB]; omega
    rw [hv]
    clear hv
    go_enter Tryz.func39, Tryz.ntmps39
    go_wp2_with (go_at_call 54; refine (reservedS n _).mono ?_; rintro e w' ⟨rfl, rfl⟩)
    go_ret
    exact ⟨rfl, rfl⟩
  have d2 : decide ((16 : Int) < (n.length : Int)) = false := by simpa using h2
  cases h3 : resB n with
  | true =>
    have hv : nameB n = false := by simp [nameB, h3]
    rw [hv]
    clear hv
    go_enter Tryz.func39, Tryz.ntmps39
    go_wp2_with (go_at_call 54; refine (reservedS n _).mono ?_; rintro e w' ⟨rfl, rfl⟩)
    go_ret
    exact ⟨rfl, rfl⟩
  | false =>
    have hv : Hid (nameB n = (n.all wB && letB (n.getD 0 0))) := by
      unfold Hid nameB
      rw [h3, show decide (1 ≤ n.length) = true by simp; omega, show decide (n.length ≤ 16) = true by simp; omega]
      simp [Bool.and_comm]
    go_enter Tryz.func39, Tryz.ntmps39
    go_wp2_with (go_at_call 54; refine (reservedS n _).mono ?_; rintro e w' ⟨rfl, hw⟩; rw [hw]; clear hw)
    go_loop [3] (fun i => ∃ k : Nat, k ≤ n.length ∧ i = .int .i64 (k : Int) ∧ Hid (∀ j (hj : j < n.length), j < k → wB (n[j]) = true)) (fun i => n.length - (intOf i).toNat)
    case atStart => exact ⟨0, by omega, rfl, fun j hj hk => by omega⟩
    case round =>
      obtain ⟨k, hk, rfl, ha⟩ := hrel
      by_cases hlt : k < n.length
      · have k0 : (0 : Int) ≤ (k : Int) := by omega
        have k1 : (k : Int) < (n.length : Int) := by omega
        cases hb : wB (n[k]) with
        | false =>
          have hf : Hid (nameB n = false) := by unfold Hid; rw [hv.out, all_lt hlt hb]; rfl
          go_wp2_with (go_at_call 55; refine (wordByteS (n[k]) _).mono ?_; rintro e w' ⟨rfl, hw⟩; rw [hw]; clear hw)
          go_ret
          rw [hf.out]
          exact ⟨rfl, rfl⟩
        | true =>
          have hf : Hid (∀ j (hj : j < n.length), j < k + 1 → wB (n[j]) = true) := fun j hj hjk => by
            by_cases e : j = k
            · subst e; exact hb
            · exact ha.out j hj (by omega)
          go_wp2_with (go_at_call 55; refine (wordByteS (n[k]) _).mono ?_; rintro e w' ⟨rfl, hw⟩; rw [hw]; clear hw)
          exact ⟨⟨k + 1, by omega, by go_num, hf⟩, by simp [intOf]; omega⟩
      · have hf : Hid (nameB n = letB (n.getD 0 0)) := by unfold Hid; rw [hv.out, all_of (fun j hj => ha.out j hj (by omega))]; rfl
        have k1 : decide ((k : Int) < (n.length : Int)) = false := by simp; omega
        have p0 : 0 < n.length := by omega
        have i0 : (0 : Int) < (n.length : Int) := by omega
        have hg : Hid (n.getD 0 0 = n[0]) := by unfold Hid; simp [p0]
        by_cases h9 : (97 : Int) ≤ ((n[0]).toNat : Int)
        · go_wp2
          go_ret
          rw [hf.out, hg.out]
          exact ⟨ret_b (by show decide (((n[0]).toNat : Int) ≤ 122) = letB (n[0]); rw [Bool.eq_iff_iff]; simp [letB]; omega), rfl⟩
        · have h9' : decide ((97 : Int) ≤ ((n[0]).toNat : Int)) = false := by simpa using h9
          go_wp2
          go_ret
          rw [hf.out, hg.out]
          exact ⟨ret_b (by rw [Bool.eq_iff_iff]; simp [letB]; omega), rfl⟩

theorem letterI (c : UInt8) (w : World) : Calls Tryz.prog 79 #[.int .u8 (c.toNat : Int)] w fun e w' => e = .returned (.bool (letB c)) ∧ w' = w := by
  have hc := c.toNat_lt
  by_cases h1 : (97 : Int) ≤ (c.toNat : Int)
  · go_enter Tryz.func79, Tryz.ntmps79
    go_wp2
    go_ret
    exact ⟨ret_b (by rw [Bool.eq_iff_iff]; simp [letB]; omega), rfl⟩
  · have d : decide ((97 : Int) ≤ (c.toNat : Int)) = false := by simpa using h1
    go_enter Tryz.func79, Tryz.ntmps79
    go_wp2
    go_ret
    exact ⟨ret_b (by rw [Bool.eq_iff_iff]; simp [letB]; omega), rfl⟩
theorem digitI (c : UInt8) (w : World) : Calls Tryz.prog 91 #[.int .u8 (c.toNat : Int)] w fun e w' => e = .returned (.bool (digB c)) ∧ w' = w := by
  have hc := c.toNat_lt
  by_cases h1 : (48 : Int) ≤ (c.toNat : Int)
  · go_enter Tryz.func91, Tryz.ntmps91
    go_wp2
    go_ret
    exact ⟨ret_b (by rw [Bool.eq_iff_iff]; simp [digB]; omega), rfl⟩
  · have d : decide ((48 : Int) ≤ (c.toNat : Int)) = false := by simpa using h1
    go_enter Tryz.func91, Tryz.ntmps91
    go_wp2
    go_ret
    exact ⟨ret_b (by rw [Bool.eq_iff_iff]; simp [digB]; omega), rfl⟩
theorem wordByteI (c : UInt8) (w : World) : Calls Tryz.prog 80 #[.int .u8 (c.toNat : Int)] w fun e w' => e = .returned (.bool (wB c)) ∧ w' = w := by
  have hb : wB c = ((letB c || digB c) || ((c.toNat : Int) == 95)) := by
    have : (((c.toNat : Int)) == 95) = (c.toNat == 95) := by rw [Bool.eq_iff_iff]; simp; omega
    rw [this]; rfl
  rw [hb]
  clear hb
  cases h1 : letB c with
  | true =>
    go_enter Tryz.func80, Tryz.ntmps80
    go_wp2_with (first | (go_at_call 79; refine (letterI c _).mono ?_; rintro e w' ⟨rfl, hw⟩; rw [hw]; clear hw) | (go_at_call 91; refine (digitI c _).mono ?_; rintro e w' ⟨rfl, hw⟩; rw [hw]; clear hw))
    go_ret
    exact ⟨ret_b (by simp [*]), rfl⟩
  | false =>
    cases h2 : digB c with
    | true =>
      go_enter Tryz.func80, Tryz.ntmps80
      go_wp2_with (first | (go_at_call 79; refine (letterI c _).mono ?_; rintro e w' ⟨rfl, hw⟩; rw [hw]; clear hw) | (go_at_call 91; refine (digitI c _).mono ?_; rintro e w' ⟨rfl, hw⟩; rw [hw]; clear hw))
      go_ret
      exact ⟨ret_b (by simp [*]), rfl⟩
    | false =>
      go_enter Tryz.func80, Tryz.ntmps80
      go_wp2_with (first | (go_at_call 79; refine (letterI c _).mono ?_; rintro e w' ⟨rfl, hw⟩; rw [hw]; clear hw) | (go_at_call 91; refine (digitI c _).mono ?_; rintro e w' ⟨rfl, hw⟩; rw [hw]; clear hw))
      go_ret
      exact ⟨ret_b (by simp [*]), rfl⟩

/-- The table of the tokens' words. -/
def TabW (w : World) : Prop := ∀ m, m < 50 → w.cell? ⟨0, m, none⟩ = some (.string ⟨(twAt m).toArray⟩)
theorem TabW.below {w w' : World} (h : TabW w) (hb : Below w.heap.size w w') : TabW w' := fun m hm => cell_keep hb (h m hm)

set_option maxHeartbeats 800000 in
theorem wordKindI (n : List UInt8) (w : World) (hT : TabW w) : Calls Tryz.prog 81 #[.string ⟨n.toArray⟩] w fun e w' => e = .returned (.int .i64 (wk n : Int)) ∧ w' = w := by
  have HT := Hid.mk hT
  clear hT
  go_enter Tryz.func81, Tryz.ntmps81
  go_wp2
  go_loop [3] (fun i => ∃ k : Nat, k ≤ 36 ∧ i = .int .i64 ((14 + k : Nat) : Int) ∧ Hid (∀ j, j < k → (n == twAt (14 + j)) = false)) (fun i => 50 - (intOf i).toNat)
  case atStart => exact ⟨0, by omega, rfl, fun j hj => by omega⟩
  case round =>
    obtain ⟨k, hk, rfl, ha⟩ := hrel
    obtain ⟨m, hm⟩ : ∃ m, m = 14 + k := ⟨_, rfl⟩
    rw [← hm]
    have HM := Hid.mk hm
    have hm36 : m < 50 → k < 36 := by omega
    have hm37 : ¬ m < 50 → k = 36 := by omega
    clear hm
    by_cases hlt : m < 50
    · have e0 := HT.out m hlt
      have k0 : (0 : Int) ≤ (m : Int) := by omega
      have k1 : (m : Int) < 50 := by omega
      cases he : (n == twAt m) with
      | true =>
        have hv : Hid (wk n = m) := by
          unfold Hid wk
          rw [HM.out] at he ⊢
          exact wkF_first (hm36 hlt) ha.out he
        go_wp2
        go_ret
        rw [hv.out]
        exact ⟨rfl, rfl⟩
      | false =>
        have hv : Hid (∀ j, j < k + 1 → (n == twAt (14 + j)) = false) := fun j hj => by
          by_cases e : j = k
          · rw [e, ← HM.out]; exact he
          · exact ha.out j (by omega)
        go_wp2
        exact ⟨⟨k + 1, hm36 hlt, by rw [HM.out]; go_num, hv⟩, by simp [intOf]; omega⟩
    · have hv : Hid (wk n = 2) := by
        unfold Hid wk
        exact wkF_none (fun j hj => ha.out j (by have := hm37 hlt; omega))
      have k1 : decide ((m : Int) < 50) = false := by simp; omega
      go_wp2
      go_ret
      rw [hv.out]
      exact ⟨rfl, rfl⟩

set_option maxHeartbeats 800000 in
theorem validNameI (n : List UInt8) (w : World) (hT : TabW w) : Calls Tryz.prog 60 #[.string ⟨n.toArray⟩] w fun e w' => e = .returned (.bool (nameB n)) ∧ w' = w := by
  have HT := Hid.mk hT
  clear hT
  by_cases h1 : n.length = 0
  · have hv : nameB n = false := by simp [nameB]; omega
    rw [hv]
    clear hv
    have d1 : ((n.length : Int) == 0) = true := by simp [h1]
    go_enter Tryz.func60, Tryz.ntmps60
    go_wp2_with fail
    go_ret
    exact ⟨rfl, rfl⟩
  have d1 : ((n.length : Int) == 0) = false := by simp; intro e; exact h1 (by rw [e]; rfl)
  by_cases h2 : (16 : Int) < (n.length : Int)
  · have hv : nameB n = false := by simp [nameB]; omega
    rw [hv]
    clear hv
    go_enter Tryz.func60, Tryz.ntmps60
    go_wp2_with fail
    go_ret
    exact ⟨rfl, rfl⟩
  have d2 : decide ((16 : Int) < (n.length : Int)) = false := by simpa using h2
  have p0 : 0 < n.length := by omega
  have i0 : (0 : Int) < (n.length : Int) := by omega
  have hg : Hid (n.getD 0 0 = n[0]) := by unfold Hid; simp [p0]
  cases h3 : letB (n[0]) with
  | false =>
    have hv : nameB n = false := by unfold nameB; rw [hg.out, h3]; simp
    rw [hv]
    clear hv
    go_enter Tryz.func60, Tryz.ntmps60
    go_wp2_with (go_at_call 79; refine (letterI (n[0]) _).mono ?_; rintro e w' ⟨rfl, hw⟩; rw [hw]; clear hw)
    go_ret
    exact ⟨rfl, rfl⟩
  | true =>
    have hv : Hid (nameB n = (n.all wB && !resB n)) := by
      unfold Hid nameB
      rw [hg.out, h3, show decide (1 ≤ n.length) = true by simp; omega, show decide (n.length ≤ 16) = true by simp; omega]
      simp
    go_enter Tryz.func60, Tryz.ntmps60
    go_wp2_with (go_at_call 79; refine (letterI (n[0]) _).mono ?_; rintro e w' ⟨rfl, hw⟩; rw [hw]; clear hw)
    go_loop [20] (fun i => ∃ k : Nat, k ≤ n.length ∧ i = .int .i64 (k : Int) ∧ Hid (∀ j (hj : j < n.length), j < k → wB (n[j]) = true)) (fun i => n.length - (intOf i).toNat)
    case atStart => exact ⟨0, by omega, rfl, fun j hj hk => by omega⟩
    case round =>
      obtain ⟨k, hk, rfl, ha⟩ := hrel
      by_cases hlt : k < n.length
      · have k0 : (0 : Int) ≤ (k : Int) := by omega
        have k1 : (k : Int) < (n.length : Int) := by omega
        cases hb : wB (n[k]) with
        | false =>
          have hf : Hid (nameB n = false) := by unfold Hid; rw [hv.out, all_lt hlt hb]; rfl
          go_wp2_with (go_at_call 80; refine (wordByteI (n[k]) _).mono ?_; rintro e w' ⟨rfl, hw⟩; rw [hw]; clear hw)
          go_ret
          rw [hf.out]
          exact ⟨rfl, rfl⟩
        | true =>
          have hf : Hid (∀ j (hj : j < n.length), j < k + 1 → wB (n[j]) = true) := fun j hj hjk => by
            by_cases e : j = k
            · subst e; exact hb
            · exact ha.out j hj (by omega)
          go_wp2_with (go_at_call 80; refine (wordByteI (n[k]) _).mono ?_; rintro e w' ⟨rfl, hw⟩; rw [hw]; clear hw)
          exact ⟨⟨k + 1, by omega, by go_num, hf⟩, by simp [intOf]; omega⟩
      · have hf : Hid (nameB n = ((wk n : Int) == 2)) := by unfold Hid; rw [hv.out, all_of (fun j hj => ha.out j hj (by omega)), wk_name]; rfl
        have k1 : decide ((k : Int) < (n.length : Int)) = false := by simp; omega
        go_wp2_with (go_at_call 81; refine (wordKindI n _ HT.out).mono ?_; rintro e w' ⟨rfl, hw⟩; rw [hw]; clear hw)
        go_ret
        rw [hf.out]
        exact ⟨rfl, rfl⟩
end Go.Proofs.YthobdaeglhdhnaaGreatDoor.Syn
