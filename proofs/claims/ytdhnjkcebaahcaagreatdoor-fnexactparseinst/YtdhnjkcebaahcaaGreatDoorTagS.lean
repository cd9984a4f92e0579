import Derived.Test.YtdhnjkcebaahcaaGreatDoorTagD
import Derived.Deep.DrawnRows
namespace Go.Proofs.YtdhnjkcebaahcaaGreatDoor.Parse
open Go Go.RowKit Go.Proofs.YtdhnjkcebaahcaaGreatDoor.Mem
set_option linter.unusedVariables false
set_option linter.unusedSimpArgs false
attribute [local go_sem ↓] Go.wp_at_zero Go.wp_at_succ

set_option maxHeartbeats 1600000 in
set_option maxRecDepth 100000 in
theorem isTagsS (a : Option Addr) (f : List UInt8) (n c : Nat) (w : World) (hn : n = f.length) (hc : n ≤ c) (hr : Rd w a f) (hl : n ≤ 1000000) :
    Calls Tryz.prog 20 #[.slice a n c] w fun e w' => e = .returned (.bool (isTags f)) ∧ ∃ m, w' = w.drewN m := by
  by_cases h45 : f = [45]
  · obtain ⟨g, o, rfl⟩ := hr.some (by rw [h45]; simp)
    have HV : Hid (isTags f = true) := by rw [h45]; rfl
    have x0 : w.cell? ⟨g, o, none⟩ = some (.int .u8 45) := by
      have := hr.at 0 (by rw [h45]; simp)
      subst h45
      exact this
    have n1 : ((n : Int) == 1) = true := by rw [hn, h45]; rfl
    have HN : Hid (n = 1) := by unfold Hid; rw [hn, h45]; rfl
    have k1 : (0 : Int) < (n : Int) := by have := HN.out; omega
    clear hn hr h45
    go_enter Tryz.func20, Tryz.ntmps20
    go_wp2
    all_goals go_ret
    all_goals (rw [HV.out]; exact ⟨rfl, 0, rfl⟩)
  · by_cases h0 : n = 0
    · have HV : Hid (isTags f = false) := by
        have : f = [] := List.eq_nil_of_length_eq_zero (by omega)
        subst this; rfl
      have n1 : ((n : Int) == 1) = false := by simp; omega
      have n2 : ¬ (0 : Int) < (n : Int) := by omega
      have n3 : ¬ 0 < n := by omega
      have h0' := Hid.mk h0
      clear h0 hr hn h45
      go_enter Tryz.func20, Tryz.ntmps20
      go_wp2
      go_loopw [3] (fun i wr => wr = w ∧ i = .int .i64 0) (fun i _ => 0)
      case atStart => exact ⟨rfl, rfl⟩
      case round =>
        obtain ⟨rfl, rfl⟩ := hrel
        go_wp2
        go_ret
        (rw [HV.out]; exact ⟨rfl, 0, rfl⟩)
    · obtain ⟨g, o, rfl⟩ := hr.some (by omega)
      have hR := Hid.mk hr
      have hN := Hid.mk hn
      obtain ⟨b, x0, hb⟩ : ∃ b : Nat, w.cell? ⟨g, o, none⟩ = some (.int .u8 (b : Int)) ∧ ¬ (n = 1 ∧ b = 45) := by
        have x0 := hr.at 0 (by omega)
        rw [Nat.add_zero] at x0
        refine ⟨_, x0, fun ⟨e1, e2⟩ => h45 ?_⟩
        match f, hn, e2 with
        | [x], _, e2 =>
          have : x = 45 := UInt8.toNat_inj.1 e2
          rw [this]
        | x :: y :: r, hn, _ => simp at hn; omega
      have HF : Hid (isTags f = allB n (okTag f)) := by
        unfold Hid isTags
        rw [show (f == [45]) = false by simpa using h45, ← hn]
        simp; omega
      have n0 : (0 : Int) < (n : Int) := by omega
      have n0' : 0 < n := by omega
      clear hr hn h45
      by_cases h1 : n = 1
      · have nn : ((n : Int) == 1) = true := by simp; omega
        have bb : ((b : Int) == 45) = false := by simp; omega
        have h1' := Hid.mk h1
        clear h1
        go_enter Tryz.func20, Tryz.ntmps20
        go_wp2
        clear x0 hb
        go_loopw [3] (fun i wr => (∃ m, wr = w.drewN m) ∧ ∃ k : Nat, k ≤ n ∧ i = .int .i64 k ∧ Hid (allB k (okTag f) = true)) (fun i _ => n - (intOf i).toNat)
        case atStart => exact ⟨⟨0, rfl⟩, 0, Nat.zero_le _, rfl, rfl⟩
        case round =>
          obtain ⟨⟨m, rfl⟩, k, hk, rfl, hall⟩ := hrel
          by_cases hlt : k < n
          · have hkl : k < f.length := by rw [← hN.out]; exact hlt
            have y1 := hR.out.at k hkl
            obtain ⟨q, hq⟩ : ∃ q, q = f[k].toNat := ⟨_, rfl⟩
            rw [← hq] at y1
            have HQ : Hid ((f.getD k 0).toNat = q) := by unfold Hid; rw [getD_of hkl, hq]
            clear hq
            have k1 : (k : Int) < (n : Int) := by omega
            have k0 : (0 : Int) ≤ (k : Int) := by omega
            by_cases q1 : 97 ≤ q
            · have q1' : decide ((q : Int) < 97) = false := by simp; omega
              by_cases q2 : q ≤ 112
              · have q2' : decide ((112 : Int) < (q : Int)) = false := by simp; omega
                cases k with
                | zero =>
                  have ha : Hid (allB (0 + 1) (okTag f) = true) := allB_succ hall.out (by unfold okTag; rw [HQ.out]; simp [q1, q2])
                  rw [Nat.add_zero] at y1
                  go_wp2_with fail
                  go_quiet (fail)
                  go_wp2
                  exact ⟨⟨⟨_, rfl⟩, 1, by omega, by go_num, ha⟩, by simp [intOf]; omega⟩
                | succ j =>
                  have y2 := hR.out.at j (by omega)
                  obtain ⟨p, hp⟩ : ∃ p, p = f[j].toNat := ⟨_, rfl⟩
                  rw [← hp] at y2
                  have HP : Hid ((f.getD j 0).toNat = p) := by unfold Hid; rw [getD_of (by omega), hp]
                  clear hp
                  have e4 : IntKind.i64.wrap ((j : Int) + 1 - 1) = (j : Int) := by rw [IntKind.wrap_i64]; omega
                  have e5 : IntKind.i64.wrap (j : Int) = (j : Int) := by rw [IntKind.wrap_i64]; omega
                  have j0 : (0 : Int) ≤ (j : Int) := by omega
                  have j1 : (j : Int) < (n : Int) := by omega
                  have j2 : (0 : Int) < (j : Int) + 1 := by omega
                  by_cases hpq : p < q
                  · have ha : Hid (allB (j + 1 + 1) (okTag f) = true) := allB_succ hall.out (by unfold okTag; rw [HQ.out, Nat.add_sub_cancel, HP.out]; simp [q1, q2, hpq])
                    have p1 : decide ((q : Int) ≤ (p : Int)) = false := by simp; omega
                    go_wp2_with fail
                    go_quiet (fail)
                    go_wp2
                    exact ⟨⟨⟨_, rfl⟩, j + 1 + 1, by omega, by go_num, ha⟩, by simp [intOf]; omega⟩
                  · have HV : Hid (isTags f = false) := by unfold Hid; rw [HF.out]; exact allB_false hlt (by unfold okTag; rw [HQ.out, Nat.add_sub_cancel, HP.out]; simp [hpq])
                    have p1 : (q : Int) ≤ (p : Int) := by omega
                    go_wp2_with fail
                    go_quiet (fail)
                    go_wp2
                    go_ret
                    (rw [HV.out]; exact ⟨rfl, drewN2 _ _ _⟩)
              · have HV : Hid (isTags f = false) := by unfold Hid; rw [HF.out]; exact allB_false hlt (by unfold okTag; rw [HQ.out]; simp [q2])
                have q2' : (112 : Int) < (q : Int) := by omega
                go_wp2_with fail
                go_quiet (fail)
                go_wp2
                go_ret
                (rw [HV.out]; exact ⟨rfl, drewN2 _ _ _⟩)
            · have HV : Hid (isTags f = false) := by unfold Hid; rw [HF.out]; exact allB_false hlt (by unfold okTag; rw [HQ.out]; simp [q1])
              have q1' : (q : Int) < 97 := by omega
              go_wp2_with fail
              go_quiet (fail)
              go_wp2
              go_ret
              (rw [HV.out]; exact ⟨rfl, drewN2 _ _ _⟩)
          · obtain rfl : k = n := by omega
            have HV : Hid (isTags f = true) := by unfold Hid; rw [HF.out]; exact hall.out
            go_wp2
            go_ret
            (rw [HV.out]; exact ⟨rfl, _, rfl⟩)
      · have nn : ((n : Int) == 1) = false := by simp; omega
        go_enter Tryz.func20, Tryz.ntmps20
        go_wp2
        clear x0 hb
        go_loopw [3] (fun i wr => (∃ m, wr = w.drewN m) ∧ ∃ k : Nat, k ≤ n ∧ i = .int .i64 k ∧ Hid (allB k (okTag f) = true)) (fun i _ => n - (intOf i).toNat)
        case atStart => exact ⟨⟨0, rfl⟩, 0, Nat.zero_le _, rfl, rfl⟩
        case round =>
          obtain ⟨⟨m, rfl⟩, k, hk, rfl, hall⟩ := hrel
          by_cases hlt : k < n
          · have hkl : k < f.length := by rw [← hN.out]; exact hlt
            have y1 := hR.out.at k hkl
            obtain ⟨q, hq⟩ : ∃ q, q = f[k].toNat := ⟨_, rfl⟩
            rw [← hq] at y1
            have HQ : Hid ((f.getD k 0).toNat = q) := by unfold Hid; rw [getD_of hkl, hq]
            clear hq
            have k1 : (k : Int) < (n : Int) := by omega
            have k0 : (0 : Int) ≤ (k : Int) := by omega
            by_cases q1 : 97 ≤ q
            · have q1' : decide ((q : Int) < 97) = false := by simp; omega
              by_cases q2 : q ≤ 112
              · have q2' : decide ((112 : Int) < (q : Int)) = false := by simp; omega
                cases k with
                | zero =>
                  have ha : Hid (allB (0 + 1) (okTag f) = true) := allB_succ hall.out (by unfold okTag; rw [HQ.out]; simp [q1, q2])
                  rw [Nat.add_zero] at y1
                  go_wp2_with fail
                  go_quiet (fail)
                  go_wp2
                  exact ⟨⟨⟨_, rfl⟩, 1, by omega, by go_num, ha⟩, by simp [intOf]; omega⟩
                | succ j =>
                  have y2 := hR.out.at j (by omega)
                  obtain ⟨p, hp⟩ : ∃ p, p = f[j].toNat := ⟨_, rfl⟩
                  rw [← hp] at y2
                  have HP : Hid ((f.getD j 0).toNat = p) := by unfold Hid; rw [getD_of (by omega), hp]
                  clear hp
                  have e4 : IntKind.i64.wrap ((j : Int) + 1 - 1) = (j : Int) := by rw [IntKind.wrap_i64]; omega
                  have e5 : IntKind.i64.wrap (j : Int) = (j : Int) := by rw [IntKind.wrap_i64]; omega
                  have j0 : (0 : Int) ≤ (j : Int) := by omega
                  have j1 : (j : Int) < (n : Int) := by omega
                  have j2 : (0 : Int) < (j : Int) + 1 := by omega
                  by_cases hpq : p < q
                  · have ha : Hid (allB (j + 1 + 1) (okTag f) = true) := allB_succ hall.out (by unfold okTag; rw [HQ.out, Nat.add_sub_cancel, HP.out]; simp [q1, q2, hpq])
                    have p1 : decide ((q : Int) ≤ (p : Int)) = false := by simp; omega
                    go_wp2_with fail
                    go_quiet (fail)
                    go_wp2
                    exact ⟨⟨⟨_, rfl⟩, j + 1 + 1, by omega, by go_num, ha⟩, by simp [intOf]; omega⟩
                  · have HV : Hid (isTags f = false) := by unfold Hid; rw [HF.out]; exact allB_false hlt (by unfold okTag; rw [HQ.out, Nat.add_sub_cancel, HP.out]; simp [hpq])
                    have p1 : (q : Int) ≤ (p : Int) := by omega
                    go_wp2_with fail
                    go_quiet (fail)
                    go_wp2
                    go_ret
                    (rw [HV.out]; exact ⟨rfl, drewN2 _ _ _⟩)
              · have HV : Hid (isTags f = false) := by unfold Hid; rw [HF.out]; exact allB_false hlt (by unfold okTag; rw [HQ.out]; simp [q2])
                have q2' : (112 : Int) < (q : Int) := by omega
                go_wp2_with fail
                go_quiet (fail)
                go_wp2
                go_ret
                (rw [HV.out]; exact ⟨rfl, drewN2 _ _ _⟩)
            · have HV : Hid (isTags f = false) := by unfold Hid; rw [HF.out]; exact allB_false hlt (by unfold okTag; rw [HQ.out]; simp [q1])
              have q1' : (q : Int) < 97 := by omega
              go_wp2_with fail
              go_quiet (fail)
              go_wp2
              go_ret
              (rw [HV.out]; exact ⟨rfl, drewN2 _ _ _⟩)
          · obtain rfl : k = n := by omega
            have HV : Hid (isTags f = true) := by unfold Hid; rw [HF.out]; exact hall.out
            go_wp2
            go_ret
            (rw [HV.out]; exact ⟨rfl, _, rfl⟩)
end Go.Proofs.YtdhnjkcebaahcaaGreatDoor.Parse
