import Derived.Test.YtdhnjkcebaahcaaGreatDoorPBase
import Derived.Deep.DrawnRows
namespace Go.Proofs.YtdhnjkcebaahcaaGreatDoor.Parse
open Go Go.RowKit Go.Proofs.YtdhnjkcebaahcaaGreatDoor.Mem
set_option linter.unusedVariables false
set_option linter.unusedSimpArgs false
attribute [local go_sem ↓] Go.wp_at_zero Go.wp_at_succ

theorem digs_zero {d : List UInt8} (h : d[0]?.map (·.toNat) = some 48) : isDigs d = false := by
  cases d with
  | nil => simp at h
  | cons b r =>
    simp at h
    have : b = 48 := UInt8.toNat_inj.1 h
    subst this
    simp [isDigs]
theorem digs_long {d : List UInt8} (h : ¬ d.length ≤ 9) : isDigs d = false := by simp [isDigs, h]
theorem digs_bad {d : List UInt8} {k : Nat} (hk : k < d.length) (h : digit d[k] = false) : isDigs d = false := by
  have : d.all digit = false := by
    rw [List.all_eq_false]
    exact ⟨d[k], List.getElem_mem hk, by rw [h]; simp⟩
  simp [isDigs, this]
theorem digs_ok {d : List UInt8} {b : Nat} (h1 : 1 ≤ d.length) (h2 : d.length ≤ 9) (hb : d[0]?.map (·.toNat) = some b) (h3 : ¬ b = 48) (h4 : d.all digit = true) : isDigs d = true := by
  cases d with
  | nil => simp at h1
  | cons x r =>
    simp only [List.getElem?_cons_zero, Option.map_some, Option.some.injEq] at hb
    have : x ≠ 48 := by intro e; subst e; exact h3 hb.symm
    unfold isDigs
    rw [h4]
    simp [h2, this]
    simpa using h2
theorem take_all {d : List UInt8} {k : Nat} (hk : k < d.length) (h : (d.take k).all digit = true) (h' : digit d[k] = true) : (d.take (k + 1)).all digit = true := by
  rw [List.take_succ_eq_append_getElem hk, List.all_append, h]
  simp [h']
theorem num_minus {f : List UInt8} (h : f[0]?.map (·.toNat) = some 45) : isNum f = isDigs (f.drop 1) ∧ num f = - dec (f.drop 1) := by
  cases f with
  | nil => simp at h
  | cons b r =>
    simp at h
    have : b = 45 := UInt8.toNat_inj.1 h
    subst this
    constructor
    · simp [isNum]
    · simp [num]
theorem num_plain {f : List UInt8} {b : Nat} (h : f[0]?.map (·.toNat) = some b) (h1 : ¬ b = 45) (h2 : ¬ (f.length = 1 ∧ b = 48)) : isNum f = isDigs f := by
  cases f with
  | nil => simp at h
  | cons x r =>
    simp only [List.getElem?_cons_zero, Option.map_some, Option.some.injEq] at h
    have e1 : x ≠ 45 := by intro e; subst e; exact h1 h.symm
    have e2 : (x :: r == [48]) = false := by
      cases r with
      | nil =>
        have : x ≠ 48 := by intro e; subst e; exact h2 ⟨rfl, h.symm⟩
        simpa using this
      | cons y t => simp
    unfold isNum
    rw [e2]
    simp [e1]

set_option maxHeartbeats 3200000 in
set_option maxRecDepth 100000 in
theorem isNumS (a : Option Addr) (f : List UInt8) (n c : Nat) (w : World) (hn : n = f.length) (hc : n ≤ c) (hr : Rd w a f) (hl : n ≤ 1000000) :
    Calls Tryz.prog 21 #[.slice a n c] w fun e w' => e = .returned (.bool (isNum f)) ∧ w' = w := by
  by_cases h0 : n = 0
  · have hf : f = [] := List.eq_nil_of_length_eq_zero (by omega)
    have HV : Hid (isNum f = false) := by subst hf; rfl
    have n1 : ((n : Int) == 1) = false := by simp; omega
    have n2 : ¬ (0 : Int) < (n : Int) := by omega
    have n3 : (n : Int) < 1 := by omega
    have h0' := Hid.mk h0
    clear h0 hf hn hr
    go_enter Tryz.func21, Tryz.ntmps21
    go_wp2
    go_ret
    (rw [HV.out]; exact ⟨rfl, rfl⟩)
  · obtain ⟨g, o, rfl⟩ := hr.some (by omega)
    have hR := Hid.mk hr
    have hN := Hid.mk hn
    obtain ⟨b, x0, hb⟩ : ∃ b : Nat, w.cell? ⟨g, o, none⟩ = some (.int .u8 (b : Int)) ∧ Hid (f[0]?.map (·.toNat) = some b) := by
      have x0 := hr.at 0 (by omega)
      rw [Nat.add_zero] at x0
      exact ⟨_, x0, by unfold Hid; simp [show 0 < f.length by omega]⟩
    clear hr hn
    by_cases hb48 : n = 1 ∧ b = 48
    · obtain ⟨rfl, rfl⟩ := hb48
      have HV : Hid (isNum f = true) := by
        have h1 := hb.out
        have h2 := hN.out
        match f, h1, h2 with
        | [x], h1, _ =>
          simp at h1
          have : x = 48 := UInt8.toNat_inj.1 h1
          subst this
          rfl
      go_enter Tryz.func21, Tryz.ntmps21
      go_wp2
      go_ret
      (rw [HV.out]; exact ⟨rfl, rfl⟩)
    · by_cases hb45 : b = 45
      · subst hb45
        clear hb48
        have HF0 := Hid.mk (num_minus hb.out).1
        by_cases hn1 : n = 1
        · have HV : Hid (isNum f = false) := by
            unfold Hid
            rw [HF0.out]
            have : f.drop 1 = [] := List.drop_eq_nil_of_le (by rw [← hN.out]; omega)
            rw [this]; rfl
          have nn : ((n : Int) == 1) = true := by simp; omega
          have q1 : (((n - 1 : Nat) : Int)) < 1 := by omega
          have hn1' := Hid.mk hn1
          clear hn1
          go_enter Tryz.func21, Tryz.ntmps21
          go_wp2
          all_goals go_ret
          all_goals (rw [HV.out]; exact ⟨rfl, rfl⟩)
        · have nn : ((n : Int) == 1) = false := by simp; omega
          obtain ⟨d, hd⟩ : ∃ d, d = f.drop 1 := ⟨_, rfl⟩
          have HF : Hid (isNum f = isDigs d) := by unfold Hid; rw [hd]; exact HF0.out
          have HRd : Hid (Rd w (some ⟨g, o + 1, none⟩) d) := by unfold Hid; rw [hd]; exact hR.out.drop 1
          have Hd : Hid (n - 1 = d.length) := by unfold Hid; rw [hd, List.length_drop, ← hN.out]
          have hm : 1 ≤ n - 1 := by omega
          clear hd HF0
          obtain ⟨b', y0, hb'⟩ : ∃ b' : Nat, w.cell? ⟨g, o + 1, none⟩ = some (.int .u8 (b' : Int)) ∧ Hid (d[0]?.map (·.toNat) = some b') := by
            have y0 := HRd.out.at 0 (by rw [← Hd.out]; exact hm)
            rw [Nat.add_zero] at y0
            exact ⟨_, y0, by unfold Hid; simp [show 0 < d.length by rw [← Hd.out]; exact hm]⟩
          have k1 : (1 : Int) ≤ ((n - 1 : Nat) : Int) := by omega
          by_cases m9 : n - 1 ≤ 9
          · have k2 : ((n - 1 : Nat) : Int) ≤ 9 := by omega
            by_cases b48 : b' = 48
            · have HV : Hid (isNum f = false) := by unfold Hid; rw [HF.out]; subst b48; exact digs_zero hb'.out
              have k3 : ((b' : Int) == 48) = true := by simp; omega
              have b48' := Hid.mk b48
              clear b48
              go_enter Tryz.func21, Tryz.ntmps21
              go_wp2
              all_goals go_ret
              all_goals (rw [HV.out]; exact ⟨rfl, rfl⟩)
            · have k3 : ((b' : Int) == 48) = false := by simp; omega
              go_enter Tryz.func21, Tryz.ntmps21
              go_wp2
              go_loopw [4] (fun i wr => wr = w ∧ ∃ k : Nat, k ≤ n - 1 ∧ i = .int .i64 k ∧ Hid ((d.take k).all digit = true)) (fun i _ => (n - 1) - (intOf i).toNat)
              case atStart => exact ⟨rfl, 0, Nat.zero_le _, rfl, by simp [Hid]⟩
              case round =>
                obtain ⟨rfl, k, hk, rfl, hall⟩ := hrel
                by_cases hlt : k < n - 1
                · have hkl : k < d.length := by rw [← Hd.out]; exact hlt
                  have y1 := HRd.out.at k hkl
                  obtain ⟨q, hq⟩ : ∃ q, q = d[k].toNat := ⟨_, rfl⟩
                  rw [← hq] at y1
                  have HQ := Hid.mk hq
                  clear hq
                  by_cases q1 : 48 ≤ q
                  · by_cases q2 : q ≤ 57
                    · have ha : Hid ((d.take (k + 1)).all digit = true) := take_all hkl hall.out (by unfold digit; rw [← HQ.out]; simp [q1, q2])
                      go_wp2
                      exact ⟨⟨by first | exact trivial | rfl, k + 1, by omega, by go_num, ha⟩, by simp [intOf]; omega⟩
                    · have HV : Hid (isNum f = false) := by unfold Hid; rw [HF.out]; exact digs_bad hkl (by unfold digit; rw [← HQ.out]; simp; omega)
                      go_wp2
                      go_ret
                      (rw [HV.out]; exact ⟨rfl, rfl⟩)
                  · have HV : Hid (isNum f = false) := by unfold Hid; rw [HF.out]; exact digs_bad hkl (by unfold digit; rw [← HQ.out]; simp; omega)
                    go_wp2
                    go_ret
                    (rw [HV.out]; exact ⟨rfl, rfl⟩)
                · have HV : Hid (isNum f = true) := by unfold Hid; rw [HF.out]; exact digs_ok (by rw [← Hd.out]; exact hm) (by rw [← Hd.out]; exact m9) (hb'.out) b48 (by have := hall.out; rwa [List.take_of_length_le (by rw [← Hd.out]; omega)] at this)
                  go_wp2
                  go_ret
                  (rw [HV.out]; exact ⟨rfl, rfl⟩)
          · have HV : Hid (isNum f = false) := by unfold Hid; rw [HF.out]; exact digs_long (by rw [← Hd.out]; omega)
            have k2 : ¬ ((n - 1 : Nat) : Int) ≤ 9 := by omega
            go_enter Tryz.func21, Tryz.ntmps21
            go_wp2
            all_goals go_ret
            all_goals (rw [HV.out]; exact ⟨rfl, rfl⟩)
      · have HF := Hid.mk (num_plain hb.out hb45 (by rw [← hN.out]; exact hb48))
        obtain ⟨d, hd⟩ : ∃ d, d = f := ⟨_, rfl⟩
        have HRd : Hid (Rd w (some ⟨g, o, none⟩) d) := by rw [hd]; exact hR
        have Hd : Hid (n = d.length) := by rw [hd]; exact hN
        have hm : 1 ≤ n := by omega
        have HF' : Hid (isNum f = isDigs d) := by rw [hd]; exact HF
        have hbd : Hid (d[0]?.map (·.toNat) = some b) := by rw [hd]; exact hb
        clear HF
        have HF := HF'
        clear HF' hd
        by_cases hn1 : n = 1
        · have nn : ((n : Int) == 1) = true := by simp; omega
          have bb : ((b : Int) == 48) = false := by simp; omega
          have hn1' := Hid.mk hn1
          clear hb48 hn1
          have k1 : (1 : Int) ≤ ((n : Nat) : Int) := by omega
          by_cases m9 : n ≤ 9
          · have k2 : ((n : Nat) : Int) ≤ 9 := by omega
            by_cases b48 : b = 48
            · have HV : Hid (isNum f = false) := by unfold Hid; rw [HF.out]; subst b48; exact digs_zero hbd.out
              have k3 : ((b : Int) == 48) = true := by simp; omega
              have b48' := Hid.mk b48
              clear b48
              go_enter Tryz.func21, Tryz.ntmps21
              go_wp2
              all_goals go_ret
              all_goals (rw [HV.out]; exact ⟨rfl, rfl⟩)
            · have k3 : ((b : Int) == 48) = false := by simp; omega
              go_enter Tryz.func21, Tryz.ntmps21
              go_wp2
              go_loopw [4] (fun i wr => wr = w ∧ ∃ k : Nat, k ≤ n ∧ i = .int .i64 k ∧ Hid ((d.take k).all digit = true)) (fun i _ => (n) - (intOf i).toNat)
              case atStart => exact ⟨rfl, 0, Nat.zero_le _, rfl, by simp [Hid]⟩
              case round =>
                obtain ⟨rfl, k, hk, rfl, hall⟩ := hrel
                by_cases hlt : k < n
                · have hkl : k < d.length := by rw [← Hd.out]; exact hlt
                  have y1 := HRd.out.at k hkl
                  obtain ⟨q, hq⟩ : ∃ q, q = d[k].toNat := ⟨_, rfl⟩
                  rw [← hq] at y1
                  have HQ := Hid.mk hq
                  clear hq
                  by_cases q1 : 48 ≤ q
                  · by_cases q2 : q ≤ 57
                    · have ha : Hid ((d.take (k + 1)).all digit = true) := take_all hkl hall.out (by unfold digit; rw [← HQ.out]; simp [q1, q2])
                      go_wp2
                      exact ⟨⟨by first | exact trivial | rfl, k + 1, by omega, by go_num, ha⟩, by simp [intOf]; omega⟩
                    · have HV : Hid (isNum f = false) := by unfold Hid; rw [HF.out]; exact digs_bad hkl (by unfold digit; rw [← HQ.out]; simp; omega)
                      go_wp2
                      go_ret
                      (rw [HV.out]; exact ⟨rfl, rfl⟩)
                  · have HV : Hid (isNum f = false) := by unfold Hid; rw [HF.out]; exact digs_bad hkl (by unfold digit; rw [← HQ.out]; simp; omega)
                    go_wp2
                    go_ret
                    (rw [HV.out]; exact ⟨rfl, rfl⟩)
                · have HV : Hid (isNum f = true) := by unfold Hid; rw [HF.out]; exact digs_ok (by rw [← Hd.out]; exact hm) (by rw [← Hd.out]; exact m9) (hbd.out) b48 (by have := hall.out; rwa [List.take_of_length_le (by rw [← Hd.out]; omega)] at this)
                  go_wp2
                  go_ret
                  (rw [HV.out]; exact ⟨rfl, rfl⟩)
          · have HV : Hid (isNum f = false) := by unfold Hid; rw [HF.out]; exact digs_long (by rw [← Hd.out]; omega)
            have k2 : ¬ ((n : Nat) : Int) ≤ 9 := by omega
            go_enter Tryz.func21, Tryz.ntmps21
            go_wp2
            all_goals go_ret
            all_goals (rw [HV.out]; exact ⟨rfl, rfl⟩)
        · have nn : ((n : Int) == 1) = false := by simp; omega
          clear hb48
          have k1 : (1 : Int) ≤ ((n : Nat) : Int) := by omega
          by_cases m9 : n ≤ 9
          · have k2 : ((n : Nat) : Int) ≤ 9 := by omega
            by_cases b48 : b = 48
            · have HV : Hid (isNum f = false) := by unfold Hid; rw [HF.out]; subst b48; exact digs_zero hbd.out
              have k3 : ((b : Int) == 48) = true := by simp; omega
              have b48' := Hid.mk b48
              clear b48
              go_enter Tryz.func21, Tryz.ntmps21
              go_wp2
              all_goals go_ret
              all_goals (rw [HV.out]; exact ⟨rfl, rfl⟩)
            · have k3 : ((b : Int) == 48) = false := by simp; omega
              go_enter Tryz.func21, Tryz.ntmps21
              go_wp2
              go_loopw [4] (fun i wr => wr = w ∧ ∃ k : Nat, k ≤ n ∧ i = .int .i64 k ∧ Hid ((d.take k).all digit = true)) (fun i _ => (n) - (intOf i).toNat)
              case atStart => exact ⟨rfl, 0, Nat.zero_le _, rfl, by simp [Hid]⟩
              case round =>
                obtain ⟨rfl, k, hk, rfl, hall⟩ := hrel
                by_cases hlt : k < n
                · have hkl : k < d.length := by rw [← Hd.out]; exact hlt
                  have y1 := HRd.out.at k hkl
                  obtain ⟨q, hq⟩ : ∃ q, q = d[k].toNat := ⟨_, rfl⟩
                  rw [← hq] at y1
                  have HQ := Hid.mk hq
                  clear hq
                  by_cases q1 : 48 ≤ q
                  · by_cases q2 : q ≤ 57
                    · have ha : Hid ((d.take (k + 1)).all digit = true) := take_all hkl hall.out (by unfold digit; rw [← HQ.out]; simp [q1, q2])
                      go_wp2
                      exact ⟨⟨by first | exact trivial | rfl, k + 1, by omega, by go_num, ha⟩, by simp [intOf]; omega⟩
                    · have HV : Hid (isNum f = false) := by unfold Hid; rw [HF.out]; exact digs_bad hkl (by unfold digit; rw [← HQ.out]; simp; omega)
                      go_wp2
                      go_ret
                      (rw [HV.out]; exact ⟨rfl, rfl⟩)
                  · have HV : Hid (isNum f = false) := by unfold Hid; rw [HF.out]; exact digs_bad hkl (by unfold digit; rw [← HQ.out]; simp; omega)
                    go_wp2
                    go_ret
                    (rw [HV.out]; exact ⟨rfl, rfl⟩)
                · have HV : Hid (isNum f = true) := by unfold Hid; rw [HF.out]; exact digs_ok (by rw [← Hd.out]; exact hm) (by rw [← Hd.out]; exact m9) (hbd.out) b48 (by have := hall.out; rwa [List.take_of_length_le (by rw [← Hd.out]; omega)] at this)
                  go_wp2
                  go_ret
                  (rw [HV.out]; exact ⟨rfl, rfl⟩)
          · have HV : Hid (isNum f = false) := by unfold Hid; rw [HF.out]; exact digs_long (by rw [← Hd.out]; omega)
            have k2 : ¬ ((n : Nat) : Int) ≤ 9 := by omega
            go_enter Tryz.func21, Tryz.ntmps21
            go_wp2
            all_goals go_ret
            all_goals (rw [HV.out]; exact ⟨rfl, rfl⟩)
end Go.Proofs.YtdhnjkcebaahcaaGreatDoor.Parse
