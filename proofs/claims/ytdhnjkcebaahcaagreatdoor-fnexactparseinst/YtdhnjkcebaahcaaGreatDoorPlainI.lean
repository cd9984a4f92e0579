import Derived.Test.YtdhnjkcebaahcaaGreatDoorCutL
import Derived.Deep.DrawnRows
namespace Go.Proofs.YtdhnjkcebaahcaaGreatDoor.Parse
open Go Go.RowKit Go.Proofs.YtdhnjkcebaahcaaGreatDoor.Mem
set_option linter.unusedVariables false
set_option linter.unusedSimpArgs false
attribute [local go_sem ↓] Go.wp_at_zero Go.wp_at_succ

theorem digitI (q : Nat) (w : World) : Calls Tryz.prog 93 #[.int .u8 (q : Int)] w fun e w' => e = .returned (.bool (decide (48 ≤ q) && decide (q ≤ 57))) ∧ w' = w := by
  by_cases h1 : 48 ≤ q
  · have g1 : (48 : Int) ≤ (q : Int) := by omega
    by_cases h2 : q ≤ 57
    · have g2 : (q : Int) ≤ 57 := by omega
      go_enter Tryz.func93, Tryz.ntmps93
      go_wp2
      go_ret
      exact ⟨by simp [h1, h2], rfl⟩
    · have g2 : decide ((q : Int) ≤ 57) = false := by simp; omega
      go_enter Tryz.func93, Tryz.ntmps93
      go_wp2
      go_ret
      exact ⟨by simp [h1, h2], rfl⟩
  · have g1 : decide ((48 : Int) ≤ (q : Int)) = false := by simp; omega
    go_enter Tryz.func93, Tryz.ntmps93
    go_wp2
    go_ret
    exact ⟨by simp [h1], rfl⟩

def plainR (d : List UInt8) : Value := .tuple #[.int .i64 (if plain d then dec d else 0), .bool (plain d)]
theorem plainR_bad {d : List UInt8} (h : plain d = false) : plainR d = .tuple #[.int .i64 0, .bool false] := by unfold plainR; rw [h]; rfl
theorem plain_bad {d : List UInt8} {k : Nat} (hk : k < d.length) (h : digit d[k] = false) : plain d = false := by
  have : d.all digit = false := by
    rw [List.all_eq_false]
    exact ⟨d[k], List.getElem_mem hk, by rw [h]; simp⟩
  simp [plain, this]
theorem plain_all {d : List UInt8} {k : Nat} (hk : k < d.length) (h : (d.take k).all digit = true) (h' : digit d[k] = true) : (d.take (k + 1)).all digit = true := by
  rw [List.take_succ_eq_append_getElem hk, List.all_append, h]
  simp [h']
theorem dec_take {d : List UInt8} {k : Nat} (hk : k < d.length) : dec (d.take (k + 1)) = 10 * dec (d.take k) + d[k].toNat - 48 := by
  rw [List.take_succ_eq_append_getElem hk, dec_snoc]
theorem dec_small {d : List UInt8} {k : Nat} (hk : k ≤ 9) (h : (d.take k).all digit = true) : 0 ≤ dec (d.take k) ∧ dec (d.take k) ≤ 1000000000 := by
  have hb := dec_bound _ h
  have hl : (d.take k).length ≤ 9 := by rw [List.length_take]; omega
  generalize (d.take k).length = m at *
  refine ⟨hb.1, ?_⟩
  have : (10 : Int) ^ m ≤ 1000000000 := by
    match m, hl with
    | 0, _ | 1, _ | 2, _ | 3, _ | 4, _ | 5, _ | 6, _ | 7, _ | 8, _ | 9, _ => decide
  omega

set_option maxHeartbeats 1600000 in
set_option maxRecDepth 100000 in
theorem plainI (a : Option Addr) (d : List UInt8) (n c : Nat) (w : World) (hn : n = d.length) (hr : Rd w a d) :
    Calls Tryz.prog 89 #[.slice a n c] w fun e w' => e = .returned (plainR d) ∧ w' = w := by
  by_cases h0 : n = 0
  · have HV : Hid (plainR d = .tuple #[.int .i64 0, .bool false]) := plainR_bad (by simp [plain]; omega)
    have n1 : ((n : Int) == 0) = true := by simp; omega
    clear h0 hn hr
    go_enter Tryz.func89, Tryz.ntmps89
    go_wp2
    go_ret2
    (rw [HV.out]; exact ⟨rfl, rfl⟩)
  · obtain ⟨g, o, rfl⟩ := hr.some (by omega)
    have n1 : ((n : Int) == 0) = false := by simp; omega
    by_cases h9 : 9 < n
    · have HV : Hid (plainR d = .tuple #[.int .i64 0, .bool false]) := plainR_bad (by simp [plain]; intros; omega)
      have n2 : (9 : Int) < (n : Int) := by omega
      clear h0 hn hr
      go_enter Tryz.func89, Tryz.ntmps89
      go_wp2
      go_ret2
      (rw [HV.out]; exact ⟨rfl, rfl⟩)
    · have n2 : decide ((9 : Int) < (n : Int)) = false := by simp; omega
      have hR := Hid.mk hr
      have hN := Hid.mk hn
      obtain ⟨b, x0, hb⟩ : ∃ b : Nat, w.cell? ⟨g, o, none⟩ = some (.int .u8 (b : Int)) ∧ Hid (d.head?.map (·.toNat) = some b) := by
        have x0 := hr.at 0 (by omega)
        rw [Nat.add_zero] at x0
        exact ⟨_, x0, by unfold Hid; cases d with | nil => simp at hn; omega | cons x r => rfl⟩
      clear hr hn
      by_cases h1 : 1 < n ∧ b = 48
      · have HV : Hid (plainR d = .tuple #[.int .i64 0, .bool false]) := plainR_bad (by
          have hb' := hb.out
          have hn' := hN.out
          cases d with
          | nil => simp at hb'
          | cons x r =>
            simp at hb'
            have : x = 48 := UInt8.toNat_inj.1 (by rw [hb', h1.2]; rfl)
            subst this
            have h2 : 1 < (48 :: r : List UInt8).length := by omega
            simp only [plain, List.head?_cons, beq_self_eq_true, Bool.and_true, h2, decide_true, Bool.not_true, Bool.and_false, Bool.false_and])
        have n3 : (1 : Int) < (n : Int) := by omega
        have b1 : ((b : Int) == 48) = true := by simp; omega
        clear h1 h0
        go_enter Tryz.func89, Tryz.ntmps89
        go_wp2
        go_ret2
        (rw [HV.out]; exact ⟨rfl, rfl⟩)
      · have HP : Hid (plain d = d.all digit) := by
          have hb' := hb.out
          have hn' := hN.out
          unfold Hid
          have e1 : decide (1 ≤ d.length) = true := by simp; omega
          have e2 : decide (d.length ≤ 9) = true := by simp; omega
          have e3 : (decide (1 < d.length) && (d.head? == some 48)) = false := by
            cases d with
            | nil => rfl
            | cons x r =>
              simp at hb'
              by_cases hx : x = 48
              · subst hx
                have : b = 48 := hb'.symm
                have : ¬ 1 < n := fun h => h1 ⟨h, this⟩
                have : ¬ 1 < (48 :: r : List UInt8).length := by omega
                simp only [this, decide_false, Bool.false_and]
              · simp [hx]
          unfold plain
          rw [e1, e2, e3]; rfl
        have body : Hid (∀ st : Nat, True) := fun _ => trivial
        by_cases h2 : 1 < n
        · have n3 : (1 : Int) < (n : Int) := by omega
          have b1 : ((b : Int) == 48) = false := by simp; omega
          have h1' := Hid.mk h1
          clear h1 h0 body
          go_enter Tryz.func89, Tryz.ntmps89
          go_wp2
          clear x0
          go_loopw [4, 28] (fun v i wr => wr = w ∧ ∃ k : Nat, k ≤ n ∧ i = .int .i64 k ∧ ∃ D : Int, v = .int .i64 D ∧ 0 ≤ D ∧ D ≤ 1000000000 ∧ Hid (D = dec (d.take k)) ∧ Hid ((d.take k).all digit = true)) (fun _ i _ => n - (intOf i).toNat)
          case atStart => exact ⟨rfl, 0, Nat.zero_le _, rfl, 0, rfl, Int.le_refl _, by decide, by simp [Hid, dec], by simp [Hid]⟩
          case round =>
            obtain ⟨rfl, k, hk, rfl, D, rfl, hD0, hD1, hD, hall⟩ := hrel
            by_cases hlt : k < n
            · have hkl : k < d.length := by rw [← hN.out]; exact hlt
              have y1 := hR.out.at k hkl
              obtain ⟨q, hq⟩ : ∃ q, q = d[k].toNat := ⟨_, rfl⟩
              rw [← hq] at y1
              have HQ := Hid.mk hq
              clear hq
              have k1 : (k : Int) < (n : Int) := by omega
              by_cases hg : 48 ≤ q ∧ q ≤ 57
              · have dg : digit d[k] = true := by unfold digit; rw [← HQ.out]; simp [hg.1, hg.2]
                have ha : Hid ((d.take (k + 1)).all digit = true) := plain_all hkl hall.out dg
                have hs := dec_small (k := k + 1) (by omega) ha.out
                rw [dec_take hkl, ← hD.out, ← HQ.out] at hs
                have hD' : Hid (10 * D + ((q : Int) - 48) = dec (d.take (k + 1))) := by unfold Hid; rw [dec_take hkl, ← hD.out, ← HQ.out]; omega
                have q1 : IntKind.u8.wrap ((q : Int) - 48) = (q : Int) - 48 := by rw [IntKind.wrap_u8]; omega
                have q2 : IntKind.i64.wrap ((q : Int) - 48) = (q : Int) - 48 := by rw [IntKind.wrap_i64]; omega
                have q3 : IntKind.i64.wrap (10 * D) = 10 * D := by rw [IntKind.wrap_i64]; omega
                have q4 : IntKind.i64.wrap (10 * D + ((q : Int) - 48)) = 10 * D + ((q : Int) - 48) := by rw [IntKind.wrap_i64]; omega
                have gb : (decide (48 ≤ q) && decide (q ≤ 57)) = true := by simp [hg.1, hg.2]
                go_wp2_with (go_at_call 93; refine (digitI q _).mono ?_; rintro e w1 ⟨rfl, rfl⟩; rw [gb])
                exact ⟨⟨by first | exact trivial | rfl, k + 1, by omega, by go_num, 10 * D + ((q : Int) - 48), by first | rfl | simp [q4], by omega, by omega, hD', ha⟩, by simp [intOf]; omega⟩
              · have HV : Hid (plainR d = .tuple #[.int .i64 0, .bool false]) := plainR_bad (plain_bad hkl (by unfold digit; rw [← HQ.out]; simp; omega))
                have gb : (decide (48 ≤ q) && decide (q ≤ 57)) = false := by simp; omega
                clear hg
                go_wp2_with (go_at_call 93; refine (digitI q _).mono ?_; rintro e w1 ⟨rfl, rfl⟩; rw [gb])
                go_ret2
                (rw [HV.out]; exact ⟨rfl, rfl⟩)
            · obtain rfl : k = n := by omega
              have et : d.take k = d := List.take_of_length_le (by rw [← hN.out]; omega)
              have HV : Hid (plainR d = .tuple #[.int .i64 D, .bool true]) := by
                unfold Hid plainR
                have := hall.out
                rw [et] at this
                rw [HP.out, this, hD.out, et]; rfl
              clear et
              have k1 : decide ((k : Int) < (k : Int)) = false := by simp
              go_wp2
              go_ret2
              (rw [HV.out]; exact ⟨rfl, rfl⟩)
        · have n3 : decide ((1 : Int) < (n : Int)) = false := by simp; omega
          have h1' := Hid.mk h1
          have h2' := Hid.mk h2
          clear h1 h0 body h2
          go_enter Tryz.func89, Tryz.ntmps89
          go_wp2
          clear x0
          go_loopw [4, 28] (fun v i wr => wr = w ∧ ∃ k : Nat, k ≤ n ∧ i = .int .i64 k ∧ ∃ D : Int, v = .int .i64 D ∧ 0 ≤ D ∧ D ≤ 1000000000 ∧ Hid (D = dec (d.take k)) ∧ Hid ((d.take k).all digit = true)) (fun _ i _ => n - (intOf i).toNat)
          case atStart => exact ⟨rfl, 0, Nat.zero_le _, rfl, 0, rfl, Int.le_refl _, by decide, by simp [Hid, dec], by simp [Hid]⟩
          case round =>
            obtain ⟨rfl, k, hk, rfl, D, rfl, hD0, hD1, hD, hall⟩ := hrel
            by_cases hlt : k < n
            · have hkl : k < d.length := by rw [← hN.out]; exact hlt
              have y1 := hR.out.at k hkl
              obtain ⟨q, hq⟩ : ∃ q, q = d[k].toNat := ⟨_, rfl⟩
              rw [← hq] at y1
              have HQ := Hid.mk hq
              clear hq
              have k1 : (k : Int) < (n : Int) := by omega
              by_cases hg : 48 ≤ q ∧ q ≤ 57
              · have dg : digit d[k] = true := by unfold digit; rw [← HQ.out]; simp [hg.1, hg.2]
                have ha : Hid ((d.take (k + 1)).all digit = true) := plain_all hkl hall.out dg
                have hs := dec_small (k := k + 1) (by omega) ha.out
                rw [dec_take hkl, ← hD.out, ← HQ.out] at hs
                have hD' : Hid (10 * D + ((q : Int) - 48) = dec (d.take (k + 1))) := by unfold Hid; rw [dec_take hkl, ← hD.out, ← HQ.out]; omega
                have q1 : IntKind.u8.wrap ((q : Int) - 48) = (q : Int) - 48 := by rw [IntKind.wrap_u8]; omega
                have q2 : IntKind.i64.wrap ((q : Int) - 48) = (q : Int) - 48 := by rw [IntKind.wrap_i64]; omega
                have q3 : IntKind.i64.wrap (10 * D) = 10 * D := by rw [IntKind.wrap_i64]; omega
                have q4 : IntKind.i64.wrap (10 * D + ((q : Int) - 48)) = 10 * D + ((q : Int) - 48) := by rw [IntKind.wrap_i64]; omega
                have gb : (decide (48 ≤ q) && decide (q ≤ 57)) = true := by simp [hg.1, hg.2]
                go_wp2_with (go_at_call 93; refine (digitI q _).mono ?_; rintro e w1 ⟨rfl, rfl⟩; rw [gb])
                exact ⟨⟨by first | exact trivial | rfl, k + 1, by omega, by go_num, 10 * D + ((q : Int) - 48), by first | rfl | simp [q4], by omega, by omega, hD', ha⟩, by simp [intOf]; omega⟩
              · have HV : Hid (plainR d = .tuple #[.int .i64 0, .bool false]) := plainR_bad (plain_bad hkl (by unfold digit; rw [← HQ.out]; simp; omega))
                have gb : (decide (48 ≤ q) && decide (q ≤ 57)) = false := by simp; omega
                clear hg
                go_wp2_with (go_at_call 93; refine (digitI q _).mono ?_; rintro e w1 ⟨rfl, rfl⟩; rw [gb])
                go_ret2
                (rw [HV.out]; exact ⟨rfl, rfl⟩)
            · obtain rfl : k = n := by omega
              have et : d.take k = d := List.take_of_length_le (by rw [← hN.out]; omega)
              have HV : Hid (plainR d = .tuple #[.int .i64 D, .bool true]) := by
                unfold Hid plainR
                have := hall.out
                rw [et] at this
                rw [HP.out, this, hD.out, et]; rfl
              clear et
              have k1 : decide ((k : Int) < (k : Int)) = false := by simp
              go_wp2
              go_ret2
              (rw [HV.out]; exact ⟨rfl, rfl⟩)
end Go.Proofs.YtdhnjkcebaahcaaGreatDoor.Parse
