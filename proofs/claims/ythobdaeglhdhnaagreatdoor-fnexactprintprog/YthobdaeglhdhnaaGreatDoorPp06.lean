import Derived.Test.YthobdaeglhdhnaaGreatDoorPp05
import Derived.Lib.QuietBelow
namespace Go.Proofs.YthobdaeglhdhnaaGreatDoor.Syn
open Go Go.RowKit Go.Proofs.YthobdaeglhdhnaaGreatDoor.Mem
set_option linter.unusedVariables false
set_option linter.unusedSimpArgs false
attribute [local go_sem ↓] Go.wp_at_zero Go.wp_at_succ

def inR (x lo hi : Int) : Bool := decide (lo ≤ x) && decide (x ≤ hi)
theorem inRI (x lo hi : Int) (w : World) : Calls Tryz.prog 45 #[.int .i64 x, .int .i64 lo, .int .i64 hi] w fun e w' => e = .returned (.bool (inR x lo hi)) ∧ w' = w := by
  by_cases h1 : lo ≤ x
  · go_enter Tryz.func45, Tryz.ntmps45
    go_wp2
    go_ret
    exact ⟨ret_b (by simp [inR, h1]), rfl⟩
  · have hd : decide (lo ≤ x) = false := by simpa using h1
    go_enter Tryz.func45, Tryz.ntmps45
    go_wp2
    go_ret
    exact ⟨ret_b (by simp [inR, hd]), rfl⟩
theorem inRS (x lo hi : Int) (w : World) : Calls Tryz.prog 38 #[.int .i64 x, .int .i64 lo, .int .i64 hi] w fun e w' => e = .returned (.bool (inR x lo hi)) ∧ w' = w := by
  by_cases h1 : lo ≤ x
  · go_enter Tryz.func38, Tryz.ntmps38
    go_wp2
    go_ret
    exact ⟨ret_b (by simp [inR, h1]), rfl⟩
  · have hd : decide (lo ≤ x) = false := by simpa using h1
    go_enter Tryz.func38, Tryz.ntmps38
    go_wp2
    go_ret
    exact ⟨ret_b (by simp [inR, hd]), rfl⟩

theorem inR_iff (x lo hi : Int) : inR x lo hi = true ↔ lo ≤ x ∧ x ≤ hi := by simp [inR]
theorem opB_name {o : Po} (h : o.k = 2) : opB o = (o.v == 0 && nameB o.n) := by
  unfold opB opMax
  rw [if_pos h, h]
  rw [Bool.eq_iff_iff]; simp; omega
theorem opB_kind {o : Po} (h : ¬ (1 ≤ o.k ∧ o.k ≤ 10)) : opB o = false := by
  unfold opB
  cases hh : (decide (1 ≤ o.k) && decide (o.k ≤ 10)) with
  | false => rfl
  | true => simp at hh; omega
theorem opB_other {o : Po} (h1 : 1 ≤ o.k) (h2 : o.k ≤ 10) (h3 : o.k ≠ 2) : opB o = (inR o.v 0 (opMax o.k) && o.n == []) := by
  unfold opB inR
  rw [if_neg h3]
  simp [h1, h2]
theorem nil_beq (n : List UInt8) (h : n ≠ []) : (n == []) = false := by cases n <;> simp_all

/-- The table of the largest Vals. -/
def TabO (w : World) : Prop := ∀ m : Nat, m < 11 → w.cell? ⟨2, m, none⟩ = some (.int .i64 (opMax m))
theorem TabO.below {w w' : World} (h : TabO w) (hb : Below w.heap.size w w') : TabO w' := fun m hm => cell_keep hb (h m hm)

set_option maxHeartbeats 1600000 in
theorem validOpI (o : Po) (w : World) (hW : TabW w) (hO : TabO w) : Calls Tryz.prog 63 #[.agg #[.int .i64 o.k, .int .i64 o.v, .string ⟨o.n.toArray⟩]] w fun e w' => e = .returned (.bool (opB o)) ∧ Below w.heap.size w w' := by
  have HW := Hid.mk hW
  have HO := Hid.mk hO
  clear hW hO
  obtain ⟨k, v, n⟩ := o
  simp only
  cases hp : inR k 1 10 with
  | false =>
    have hv : opB ⟨k, v, n⟩ = false := opB_kind (by have := inR_iff k 1 10; rw [hp] at this; simpa using this)
    rw [hv]
    clear hv
    go_enter Tryz.func63, Tryz.ntmps63
    go_wp2
    go_quiet ((go_at_call 45; exact Calls.quiet_of_same (inRI _ _ _ _)))
    go_wp2
    go_ret
    exact ⟨rfl, below_drewN' (by go_grown) _⟩
  | true =>
    have hk := (inR_iff k 1 10).1 hp
    obtain ⟨m, rfl⟩ : ∃ m : Nat, k = (m : Int) := ⟨k.toNat, by omega⟩
    have m0 : m < 11 := by omega
    have i0 : (0 : Int) ≤ (m : Int) := by omega
    have i1 : (m : Int) < 11 := by omega
    have t0 := HO.out m m0
    have g5 := lt_of_cell t0
    cases hq : inR v 0 (opMax m) with
    | false =>
      have hv : opB ⟨m, v, n⟩ = false := by
        by_cases h2 : (m : Int) = 2
        · rw [opB_name (o := ⟨m, v, n⟩) h2]
          have hv0 : (v == 0) = false := by
            rw [h2] at hq
            simp [inR, opMax] at hq
            simp; omega
          simp [hv0]
        · rw [opB_other (o := ⟨m, v, n⟩) hk.1 hk.2 h2, hq]; rfl
      rw [hv]
      clear hv
      go_enter Tryz.func63, Tryz.ntmps63
      go_wp2
      go_quiet ((go_at_call 45; exact Calls.quiet_of_same (inRI _ _ _ _)))
      go_wp2
      go_ret
      exact ⟨rfl, below_drewN' (by go_grown) _⟩
    | true =>
      by_cases h2 : m = 2
      · subst h2
        have hv : Hid (opB ⟨(2 : Nat), v, n⟩ = nameB n) := by
          have hv0 : v = 0 := by simp [inR, opMax] at hq; omega
          unfold Hid; rw [opB_name (o := ⟨(2 : Nat), v, n⟩) rfl, hv0]; simp
        have hp' : inR 2 1 10 = true := by decide
        have hq' : inR v 0 (opMax 2) = true := hq
        clear hp hq
        go_enter Tryz.func63, Tryz.ntmps63
        go_wp2
        go_quiet ((go_at_call 45; exact Calls.quiet_of_same (inRI _ _ _ _)))
        clear t0
        go_wp2_with fail
        refine (validNameI n _ ((HW.out.below (Below.alloc (Below.refl _ _) (Nat.le_refl _) _)).below (below_drewN' (Below.refl _ _) _))).mono ?_
        rintro e w' ⟨rfl, hw⟩
        rw [hw]
        clear hw
        go_wp2
        go_ret
        rw [hv.out]
        exact ⟨rfl, below_drewN' (by go_grown) _⟩
      · have hv : Hid (opB ⟨m, v, n⟩ = (n == [])) := by
          unfold Hid; rw [opB_other (o := ⟨m, v, n⟩) hk.1 hk.2 (show (m : Int) ≠ 2 by omega), hq]; rfl
        have e2 : ((m : Int) == 2) = false := by simp; omega
        go_enter Tryz.func63, Tryz.ntmps63
        go_wp2
        go_quiet ((go_at_call 45; exact Calls.quiet_of_same (inRI _ _ _ _)))
        clear t0
        go_wp2
        go_ret
        rw [hv.out]
        exact ⟨ret_b (by cases n <;> rfl), below_drewN' (by go_grown) _⟩

set_option maxHeartbeats 1600000 in
theorem goodOpS (o : Po) (w : World) : Calls Tryz.prog 56 #[.agg #[.int .i64 o.k, .int .i64 o.v, .string ⟨o.n.toArray⟩]] w fun e w' => e = .returned (.bool (opB o)) ∧ Below w.heap.size w w' := by
  obtain ⟨k, v, n⟩ := o
  simp only
  by_cases h2 : k = 2
  · subst h2
    have hv : Hid (opB ⟨2, v, n⟩ = (v == 0 && nameB n)) := opB_name (o := ⟨2, v, n⟩) rfl
    cases hv0 : (v == 0) with
    | false =>
      go_enter Tryz.func56, Tryz.ntmps56
      go_wp2_with (go_at_call 39; refine (isNameS n _).mono ?_; rintro e w' ⟨rfl, hw⟩; rw [hw]; clear hw)
      go_ret
      rw [hv.out]
      exact ⟨ret_b (by simp [hv0]), by go_grown⟩
    | true =>
      go_enter Tryz.func56, Tryz.ntmps56
      go_wp2_with (go_at_call 39; refine (isNameS n _).mono ?_; rintro e w' ⟨rfl, hw⟩; rw [hw]; clear hw)
      go_ret
      rw [hv.out]
      exact ⟨ret_b (by simp [hv0]), by go_grown⟩
  have e2 : (k == 2) = false := by simpa using h2
  cases hn : (n == []) with
  | false =>
    have hv : opB ⟨k, v, n⟩ = false := by
      by_cases hk : 1 ≤ k ∧ k ≤ 10
      · rw [opB_other (o := ⟨k, v, n⟩) hk.1 hk.2 h2, hn]; simp
      · exact opB_kind hk
    rw [hv]
    clear hv
    go_enter Tryz.func56, Tryz.ntmps56
    go_wp2_with fail
    go_ret
    exact ⟨rfl, by go_grown⟩
  | true =>
    by_cases hk : 1 ≤ k ∧ k ≤ 10
    · have hv : Hid (opB ⟨k, v, n⟩ = inR v 0 (opMax k)) := by unfold Hid; rw [opB_other (o := ⟨k, v, n⟩) hk.1 hk.2 h2, hn]; simp
      have : k = 1 ∨ k = 3 ∨ k = 4 ∨ k = 5 ∨ k = 6 ∨ k = 7 ∨ k = 8 ∨ k = 9 ∨ k = 10 := by omega
      rcases this with rfl | rfl | rfl | rfl | rfl | rfl | rfl | rfl | rfl
      all_goals
        go_enter Tryz.func56, Tryz.ntmps56
        go_wp2_with (go_at_call 38; refine (inRS _ _ _ _).mono ?_; rintro e w' ⟨rfl, hw⟩; rw [hw]; clear hw)
        go_ret
        rw [hv.out]
        exact ⟨ret_b (by first | rfl | (rw [Bool.eq_iff_iff]; simp [inR, opMax]; omega)), by go_grown⟩
    · have hv : opB ⟨k, v, n⟩ = false := opB_kind hk
      rw [hv]
      clear hv
      have f1 : (k == 1) = false := by simp; omega
      have f3 : (k == 3) = false := by simp; omega
      have f4 : (k == 4) = false := by simp; omega
      have f5 : (k == 5) = false := by simp; omega
      have f6 : (k == 6) = false := by simp; omega
      have f7 : (k == 7) = false := by simp; omega
      have f8 : (k == 8) = false := by simp; omega
      have f9 : (k == 9) = false := by simp; omega
      have f10 : (k == 10) = false := by simp; omega
      go_enter Tryz.func56, Tryz.ntmps56
      go_wp2_with fail
      go_ret
      exact ⟨rfl, by go_grown⟩

/-- How many operands, by the specification: of an Op that is one. -/
theorem arityS (o : Po) (w : World) (h : opB o = true) : Calls Tryz.prog 57 #[.agg #[.int .i64 o.k, .int .i64 o.v, .string ⟨o.n.toArray⟩]] w fun e w' => e = .returned (.int .i64 (ar o : Int)) ∧ Below w.heap.size w w' := by
  obtain ⟨k, v, n⟩ := o
  have hk : 1 ≤ k ∧ k ≤ 10 := by
    by_cases hk : 1 ≤ k ∧ k ≤ 10
    · exact hk
    · rw [opB_kind (o := ⟨k, v, n⟩) hk] at h; cases h
  clear h
  simp only
  by_cases h6 : k ≤ 6
  · have hv : Hid (ar ⟨k, v, n⟩ = 0) := by unfold Hid ar; simp only; rw [if_neg (by omega), if_neg (by omega), if_neg (by omega)]
    go_enter Tryz.func57, Tryz.ntmps57
    go_wp2
    go_ret
    rw [hv.out]
    exact ⟨rfl, by go_grown⟩
  have : k = 7 ∨ k = 8 ∨ k = 9 ∨ k = 10 := by omega
  clear h6 hk
  rcases this with rfl | rfl | rfl | rfl
  · have hv : Hid (ar ⟨7, v, n⟩ = 1) := by unfold Hid ar; simp
    go_enter Tryz.func57, Tryz.ntmps57
    go_wp2
    go_ret
    rw [hv.out]
    exact ⟨rfl, by go_grown⟩
  · have hv : Hid (ar ⟨8, v, n⟩ = 1) := by unfold Hid ar; simp
    go_enter Tryz.func57, Tryz.ntmps57
    go_wp2
    go_ret
    rw [hv.out]
    exact ⟨rfl, by go_grown⟩
  · have hv : Hid (ar ⟨9, v, n⟩ = 2) := by unfold Hid ar; simp
    go_enter Tryz.func57, Tryz.ntmps57
    go_wp2
    go_ret
    rw [hv.out]
    exact ⟨rfl, by go_grown⟩
  · cases hq : (v == 2) with
    | true =>
      have hv : Hid (ar ⟨10, v, n⟩ = 3) := by unfold Hid ar; simp at hq; simp [hq]
      have hq' : (v != 2) = false := by simpa using hq
      go_enter Tryz.func57, Tryz.ntmps57
      go_wp2
      go_ret
      rw [hv.out]
      exact ⟨rfl, by go_grown⟩
    | false =>
      have hv : Hid (ar ⟨10, v, n⟩ = 2) := by unfold Hid ar; simp at hq; simp [hq]
      have hq' : (v != 2) = true := by simpa using hq
      go_enter Tryz.func57, Tryz.ntmps57
      go_wp2
      go_ret
      rw [hv.out]
      exact ⟨rfl, by go_grown⟩

def cop (v : Int) : Int := if v = 2 then 3 else 2
theorem callOpsI (v : Int) (w : World) : Calls Tryz.prog 82 #[.int .i64 v] w fun e w' => e = .returned (.int .i64 (cop v)) ∧ w' = w := by
  cases hq : (v == 2) with
  | true =>
    have hv : Hid (cop v = 3) := by unfold Hid cop; rw [if_pos (by simpa using hq)]
    go_enter Tryz.func82, Tryz.ntmps82
    go_wp2
    go_ret
    (rw [hv.out]; exact ⟨rfl, rfl⟩)
  | false =>
    have hv : Hid (cop v = 2) := by unfold Hid cop; rw [if_neg (by simpa using hq)]
    go_enter Tryz.func82, Tryz.ntmps82
    go_wp2
    go_ret
    (rw [hv.out]; exact ⟨rfl, rfl⟩)
theorem countI (o : Po) (w : World) : Calls Tryz.prog 62 #[.agg #[.int .i64 o.k, .int .i64 o.v, .string ⟨o.n.toArray⟩]] w fun e w' => e = .returned (.int .i64 (ar o : Int)) ∧ Below w.heap.size w w' := by
  obtain ⟨k, v, n⟩ := o
  simp only
  by_cases h7 : k = 7
  · subst h7
    go_enter Tryz.func62, Tryz.ntmps62
    go_wp2
    go_ret
    exact ⟨rfl, by go_grown⟩
  by_cases h8 : k = 8
  · subst h8
    go_enter Tryz.func62, Tryz.ntmps62
    go_wp2
    go_ret
    exact ⟨rfl, by go_grown⟩
  by_cases h9 : k = 9
  · subst h9
    go_enter Tryz.func62, Tryz.ntmps62
    go_wp2
    go_ret
    exact ⟨rfl, by go_grown⟩
  by_cases h10 : k = 10
  · subst h10
    have hv : Hid ((ar ⟨10, v, n⟩ : Int) = cop v) := by unfold Hid ar cop; simp; split <;> rfl
    go_enter Tryz.func62, Tryz.ntmps62
    go_wp2_with (go_at_call 82; refine (callOpsI v _).mono ?_; rintro e w' ⟨rfl, hw⟩; rw [hw]; clear hw)
    go_ret
    rw [hv.out]
    exact ⟨rfl, by go_grown⟩
  have hv : Hid (ar ⟨k, v, n⟩ = 0) := by unfold Hid ar; simp [h7, h8, h9, h10]
  have f7 : (k == 7) = false := by simpa using h7
  have f8 : (k == 8) = false := by simpa using h8
  have f9 : (k == 9) = false := by simpa using h9
  have f10 : (k == 10) = false := by simpa using h10
  go_enter Tryz.func62, Tryz.ntmps62
  go_wp2
  go_ret
  rw [hv.out]
  exact ⟨rfl, by go_grown⟩
end Go.Proofs.YthobdaeglhdhnaaGreatDoor.Syn
