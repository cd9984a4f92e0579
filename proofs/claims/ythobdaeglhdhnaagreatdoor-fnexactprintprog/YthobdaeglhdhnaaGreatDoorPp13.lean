import Derived.Test.YthobdaeglhdhnaaGreatDoorPp12
import Derived.Laws.AppendOwnNone
namespace Go.Proofs.YthobdaeglhdhnaaGreatDoor.Syn
open Go Go.RowKit Go.Proofs.YthobdaeglhdhnaaGreatDoor.Mem
set_option linter.unusedVariables false
set_option linter.unusedSimpArgs false
attribute [local go_sem ↓] Go.wp_at_zero Go.wp_at_succ

theorem bstrS (v : Int) (w : World) : Calls Tryz.prog 90 #[.int .i64 v] w fun e w' => e = .returned (.int .i64 (bstr v)) ∧ w' = w := by
  have : v = 0 ∨ v = 1 ∨ v = 2 ∨ v = 6 ∨ v = 7 ∨ (v ≠ 0 ∧ v ≠ 1 ∧ v ≠ 2 ∧ v ≠ 6 ∧ v ≠ 7) := by omega
  rcases this with rfl | rfl | rfl | rfl | rfl | ⟨h0, h1, h2, h6, h7⟩
  · go_enter Tryz.func90, Tryz.ntmps90
    go_wp2
    go_ret
    exact ⟨rfl, rfl⟩
  · go_enter Tryz.func90, Tryz.ntmps90
    go_wp2
    go_ret
    exact ⟨rfl, rfl⟩
  · go_enter Tryz.func90, Tryz.ntmps90
    go_wp2
    go_ret
    exact ⟨rfl, rfl⟩
  · go_enter Tryz.func90, Tryz.ntmps90
    go_wp2
    go_ret
    exact ⟨rfl, rfl⟩
  · go_enter Tryz.func90, Tryz.ntmps90
    go_wp2
    go_ret
    exact ⟨rfl, rfl⟩
  · have hv : Hid (bstr v = 3) := by unfold Hid bstr; rw [if_neg h0, if_neg (by omega), if_neg h6, if_neg h7]
    have f0 : (v == 0) = false := by simpa using h0
    have f1 : (v == 1) = false := by simpa using h1
    have f2 : (v == 2) = false := by simpa using h2
    have f6 : (v == 6) = false := by simpa using h6
    have f7 : (v == 7) = false := by simpa using h7
    go_enter Tryz.func90, Tryz.ntmps90
    go_wp2
    go_ret
    rw [hv.out]
    exact ⟨rfl, rfl⟩
theorem strengthS (o : Po) (w : World) : Calls Tryz.prog 74 #[.agg #[.int .i64 o.k, .int .i64 o.v, .string ⟨o.n.toArray⟩]] w fun e w' => e = .returned (.int .i64 (pstr o)) ∧ Below w.heap.size w w' := by
  obtain ⟨k, v, n⟩ := o
  simp only
  by_cases h9 : k = 9
  · subst h9
    have hv : Hid (pstr ⟨9, v, n⟩ = bstr v) := by unfold Hid pstr; rw [if_pos rfl]
    go_enter Tryz.func74, Tryz.ntmps74
    go_wp2_with (go_at_call 90; refine (bstrS _ _).mono ?_; rintro e w' ⟨rfl, hw⟩; rw [hw]; clear hw)
    go_ret
    rw [hv.out]
    exact ⟨rfl, by go_grown⟩
  have f9 : (k == 9) = false := by simpa using h9
  by_cases h7 : k = 7
  · subst h7
    have hv : Hid (pstr ⟨7, v, n⟩ = 6) := by unfold Hid pstr; simp
    go_enter Tryz.func74, Tryz.ntmps74
    go_wp2
    go_ret
    rw [hv.out]
    exact ⟨rfl, by go_grown⟩
  have f7 : (k == 7) = false := by simpa using h7
  by_cases h8 : k = 8
  · subst h8
    have hv : Hid (pstr ⟨8, v, n⟩ = 6) := by unfold Hid pstr; simp
    go_enter Tryz.func74, Tryz.ntmps74
    go_wp2
    go_ret
    rw [hv.out]
    exact ⟨rfl, by go_grown⟩
  have f8 : (k == 8) = false := by simpa using h8
  have hv : Hid (pstr ⟨k, v, n⟩ = 7) := by unfold Hid pstr; simp [h7, h8, h9]
  go_enter Tryz.func74, Tryz.ntmps74
  go_wp2
  go_ret
  rw [hv.out]
  exact ⟨rfl, by go_grown⟩

/-- Whether operand i stands in parentheses. -/
def wrp (o : Po) (i : Nat) (s : Int) : Bool := if o.k = 7 ∨ o.k = 8 then decide (s ≤ 5) else if o.k = 9 then (if i = 0 then (decide (s < bstr o.v) || (s == 3 && bstr o.v == 3)) else decide (s ≤ bstr o.v)) else false
set_option maxHeartbeats 1600000 in
theorem wrappedS (o : Po) (i : Nat) (s : Int) (w : World) (hi : i ≤ 100) : Calls Tryz.prog 76 #[.agg #[.int .i64 o.k, .int .i64 o.v, .string ⟨o.n.toArray⟩], .int .i64 (i : Int), .int .i64 s] w fun e w' => e = .returned (.bool (wrp o i s)) ∧ Below w.heap.size w w' := by
  by_cases h7 : o.k = 7
  · have hv : Hid (wrp o i s = decide (s ≤ 5)) := by unfold Hid wrp; rw [if_pos (Or.inl h7)]
    rw [h7]
    go_enter Tryz.func76, Tryz.ntmps76
    go_wp2
    go_ret
    rw [hv.out]
    exact ⟨rfl, by go_grown⟩
  have f7 : (o.k == 7) = false := by simpa using h7
  by_cases h8 : o.k = 8
  · have hv : Hid (wrp o i s = decide (s ≤ 5)) := by unfold Hid wrp; rw [if_pos (Or.inr h8)]
    rw [h8]
    clear f7
    go_enter Tryz.func76, Tryz.ntmps76
    go_wp2
    go_ret
    rw [hv.out]
    exact ⟨rfl, by go_grown⟩
  have f8 : (o.k == 8) = false := by simpa using h8
  by_cases h9 : o.k = 9
  · have hp : Hid (pstr o = bstr o.v) := by unfold Hid pstr; rw [if_pos h9]
    have hB := Hid.mk ((Below.refl w.heap.size w).alloc (Nat.le_refl _) (.cells #[.int .i64 o.k, .int .i64 o.v, .string ⟨o.n.toArray⟩] 91))
    have f9 : (o.k != 9) = false := by simpa using h9
    have g9 : (o.k == 9) = true := by simpa using h9
    have hw0 : Hid (wrp o i s = if i = 0 then (decide (s < bstr o.v) || (s == 3 && bstr o.v == 3)) else decide (s ≤ bstr o.v)) := by unfold Hid wrp; rw [if_neg (by omega), if_pos h9]
    obtain ⟨t, ht⟩ : ∃ t, t = bstr o.v := ⟨_, rfl⟩
    rw [← ht] at hp hw0
    have SC : Hid (∀ W : World, Calls Tryz.prog 74 #[.agg #[.int .i64 o.k, .int .i64 o.v, .string ⟨o.n.toArray⟩]] W fun e w' => e = .returned (.int .i64 t) ∧ Below W.heap.size W w') := fun W => by have := strengthS o W; rw [hp.out] at this; exact this
    clear ht h9 hp
    by_cases hi0 : i = 0
    · subst hi0
      have hv : Hid (wrp o 0 s = (decide (s < t) || (s == 3 && t == 3))) := by unfold Hid; rw [hw0.out, if_pos rfl]
      by_cases h1 : s < t
      · go_enter Tryz.func76, Tryz.ntmps76
        go_wp2_with fail
        refine (SC.out _).mono ?_
        rintro e w1 ⟨rfl, hb⟩
        have HB := Hid.mk (below_then hB.out hb)
        clear hb
        go_wp2
        go_ret
        exact ⟨ret_b (by rw [hv.out]; simp [h1]), HB.out⟩
      · have d1 : decide (s < t) = false := by simpa using h1
        cases h3 : (s == 3) with
        | true =>
          go_enter Tryz.func76, Tryz.ntmps76
          go_wp2_with fail
          refine (SC.out _).mono ?_
          rintro e w1 ⟨rfl, hb⟩
          have HB := Hid.mk (below_then hB.out hb)
          clear hb
          go_wp2
          go_ret
          exact ⟨ret_b (by rw [hv.out]; simp [d1, h3]), HB.out⟩
        | false =>
          go_enter Tryz.func76, Tryz.ntmps76
          go_wp2_with fail
          refine (SC.out _).mono ?_
          rintro e w1 ⟨rfl, hb⟩
          have HB := Hid.mk (below_then hB.out hb)
          clear hb
          go_wp2
          go_ret
          exact ⟨ret_b (by rw [hv.out]; simp [d1, h3]), HB.out⟩
    · have hv : Hid (wrp o i s = decide (s ≤ t)) := by unfold Hid; rw [hw0.out, if_neg hi0]
      have hi' : ((i : Int) == 0) = false := by simp; omega
      go_enter Tryz.func76, Tryz.ntmps76
      go_wp2_with fail
      refine (SC.out _).mono ?_
      rintro e w1 ⟨rfl, hb⟩
      have HB := Hid.mk (below_then hB.out hb)
      clear hb
      go_wp2
      go_ret
      rw [hv.out]
      exact ⟨rfl, HB.out⟩
  · have hv : Hid (wrp o i s = false) := by unfold Hid wrp; rw [if_neg (by omega), if_neg h9]
    have f9 : (o.k != 9) = true := by simpa using h9
    have g9 : (o.k == 9) = false := by simpa using h9
    go_enter Tryz.func76, Tryz.ntmps76
    go_wp2
    go_ret
    rw [hv.out]
    exact ⟨rfl, by go_grown⟩
end Go.Proofs.YthobdaeglhdhnaaGreatDoor.Syn
