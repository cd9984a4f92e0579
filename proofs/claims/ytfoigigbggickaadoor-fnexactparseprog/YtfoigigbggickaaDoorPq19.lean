import Derived.Test.YtfoigigbggickaaDoorPq03
import Derived.Deep.DrawnRows
namespace Go.Proofs.YtfoigigbggickaaDoor.Parse
open Go Go.RowKit Go.Proofs.YtfoigigbggickaaDoor.Mem
set_option linter.unusedVariables false
set_option linter.unusedSimpArgs false
attribute [local go_sem ↓] Go.wp_at_zero Go.wp_at_succ

theorem digs_zero {d : List UInt8} (h : d[0]?.map (·.toNat) = some 48) : isDigs d = false := by
  cases d with
  | nil => simp at h
  | cons b r =>
    simp at h
    have : b = 48 := UInt8.toNat_inj.1 h
    subst this
    simp [isDigs]
theorem digs_long {d : List UInt8} (h : ¬ d.length ≤ 9) : isDigs d = false := by simp [isDigs, h]
theorem digs_bad {d : List UInt8} {k : Nat} (hk : k < d.length) (h : digit d[k] = false) : isDigs d = false := by
  have : d.all digit = false := by
    rw [List.all_eq_false]
    exact ⟨d[k], List.getElem_mem hk, by rw [h]; simp⟩
  simp [isDigs, this]
theorem digs_ok {d : List UInt8} {b : Nat} (h1 : 1 ≤ d.length) (h2 : d.length ≤ 9) (hb : d[0]?.map (·.toNat) = some b) (h3 : ¬ b = 48) (h4 : d.all digit = true) : isDigs d = true := by
  cases d with
  | nil => simp at h1
  | cons x r =>
    simp only [List.getElem?_cons_zero, Option.map_some, Option.some.injEq] at hb
    have : x ≠ 48 := by intro e; subst e; exact h3 hb.symm
    unfold isDigs
    rw [h4]
    simp [h2, this]
    simpa using h2
theorem take_all {d : List UInt8} {k : Nat} (hk : k < d.length) (h : (d.take k).all digit = true) (h' : digit d[k] = true) : (d.take (k + 1)).all digit = true := by
  rw [List.take_succ_eq_append_getElem hk, List.all_append, h]
  simp [h']
theorem num_minus {f : List UInt8} (h : f[0]?.map (·.toNat) = some 45) : isNum f = isDigs (f.drop 1) ∧ num f = - dec (f.drop 1) := by
  cases f with
  | nil => simp at h
  | cons b r =>
    simp at h
    have : b = 45 := UInt8.toNat_inj.1 h
    subst this
    constructor
    · simp [isNum]
    · simp [num]
theorem num_plain {f : List UInt8} {b : Nat} (h : f[0]?.map (·.toNat) = some b) (h1 : ¬ b = 45) (h2 : ¬ (f.length = 1 ∧ b = 48)) : isNum f = isDigs f := by
  cases f with
  | nil => simp at h
  | cons x r =>
    simp only [List.getElem?_cons_zero, Option.map_some, Option.some.injEq] at h
    have e1 : x ≠ 45 := by intro e; subst e; exact h1 h.symm
    have e2 : (x :: r == [48]) = false := by
      cases r with
      | nil =>
        have : x ≠ 48 := by intro e; subst e; exact h2 ⟨rfl, h.symm⟩
        simpa using this
      | cons y t => simp
    unfold isNum
    rw [e2]
    simp [e1]

set_option maxHeartbeats 3200000 in
set_option maxRecDepth 100000 in
theorem isNumS (a : Option Addr) (f : List UInt8) (n c : Nat) (w : World) (hn : n = f.length) (hc : n ≤ c) (hr : Rd w a f) (hl : n ≤ 1000000) :
    Calls Tryd.prog 37 #[.slice a n c] w fun e w' => e = .returned (.bool (isNum f)) ∧ w' = w := by
  by_cases h0 : n = 0
  · have hf : f = [] := List.eq_nil_of_length_eq_zero (by omega)
    have HV : Hid (isNum f = false) := by subst hf; rfl
    have n1 : ((n : Int) == 1) = false := by simp; omega
    have n2 : ¬ (0 : Int) < (n : Int) := by omega
    have n3 : (n : Int) < 1 := by omega
    have h0' := Hid.mk h0
    clear h0 hf hn hr
    go_enter Tryd.func37, Tryd.ntmps37
    go_wp2
    go_ret
    (rw [HV.out]; exact ⟨rfl, rfl⟩)
  · obtain ⟨g, o, rfl⟩ := hr.some (by omega)
    have hR := Hid.mk hr
    have hN := Hid.mk hn
    obtain ⟨b, x0, hb⟩ : ∃ b : Nat, w.cell? ⟨g, o, none⟩ = some (.int .u8 (b : Int)) ∧ Hid (f[0]?.map (·.toNat) = some b) := by
      have x0 := hr.at 0 (by omega)
      rw [Nat.add_zero] at x0
      exact ⟨_, x0, by unfold Hid; simp [show 0 < f.length by omega]⟩
    clear hr hn
    by_cases hb48 : n = 1 ∧ b = 48
    · obtain ⟨rfl, rfl⟩ := hb48
      have HV : Hid (isNum f = true) := by
        have h1 := hb.out
        have h2 := hN.out
        match f, h1, h2 with
        | [x], h1, _ =>
          simp at h1
          have : x = 48 := UInt8.toNat_inj.1 h1
          subst this
          rfl
      go_enter Tryd.func37, Tryd.ntmps37
      go_wp2
      go_ret
      (rw [HV.out]; exact ⟨rfl, rfl⟩)
    · by_cases hb45 : b = 45
      · subst hb45
        clear hb48
        have HF0 := Hid.mk (num_minus hb.out).1
        by_cases hn1 : n = 1
        · have HV : Hid (isNum f = false) := by
            unfold Hid
            rw [HF0.out]
            have : f.drop 1 = [] := List.drop_eq_nil_of_le (by rw [← hN.out]; omega)
            rw [this]; rfl
          have nn : ((n : Int) == 1) = true := by simp; omega
          have q1 : (((n - 1 : Nat) : Int)) < 1 := by omega
          have hn1' := Hid.mk hn1
          clear hn1
          go_enter Tryd.func37, Tryd.ntmps37
          go_wp2
          all_goals go_ret
          all_goals (rw [HV.out]; exact ⟨rfl, rfl⟩)
        · have nn : ((n : Int) == 1) = false := by simp; omega
          obtain ⟨d, hd⟩ : ∃ d, d = f.drop 1 := ⟨_, rfl⟩
          have HF : Hid (isNum f = isDigs d) := by unfold Hid; rw [hd]; exact HF0.out
          have HRd : Hid (Rd w (some ⟨g, o + 1, none⟩) d) := by unfold Hid; rw [hd]; exact hR.out.drop 1
          have Hd : Hid (n - 1 = d.length) := by unfold Hid; rw [hd, List.length_drop, ← hN.out]
          have hm : 1 ≤ n - 1 := by omega
          clear hd HF0
          obtain ⟨b', y0, hb'⟩ : ∃ b' : Nat, w.cell? ⟨g, o + 1, none⟩ = some (.int .u8 (b' : Int)) ∧ Hid (d[0]?.map (·.toNat) = some b') := by
            have y0 := HRd.out.at 0 (by rw [← Hd.out]; exact hm)
            rw [Nat.add_zero] at y0
            exact ⟨_, y0, by unfold Hid; simp [show 0 < d.length by rw [← Hd.out]; exact hm]⟩
          have k1 : (1 : Int) ≤ ((n - 1 : Nat) : Int) := by omega
          by_cases m9 : n - 1 ≤ 9
          · have k2 : ((n - 1 : Nat) : Int) ≤ 9 := by omega
            by_cases b48 : b' = 48
            · have HV : Hid (isNum f = false) := by unfold Hid; rw [HF.out]; subst b48; exact digs_zero hb'.out
              have k3 : ((b' : Int) == 48) = true := by simp; omega
              have b48' := Hid.mk b48
              clear b48
              go_enter Tryd.func37, Tryd.ntmps37
              go_wp2
              all_goals go_ret
              all_goals (rw [HV.out]; exact ⟨rfl, rfl⟩)
            · have k3 : ((b' : Int) == 48) = false := by simp; omega
              go_enter Tryd.func37, Tryd.ntmps37
              go_wp2
              go_loopw [4] (fun i wr => wr = w ∧ ∃ k : Nat, k ≤ n - 1 ∧ i = .int .i64 k ∧ Hid ((d.take k).all digit = true)) (fun i _ => (n - 1) - (intOf i).toNat)
              case atStart => exact ⟨rfl, 0, Nat.zero_le _, rfl, by simp [Hid]⟩
              case round =>
                obtain ⟨rfl, k, hk, rfl, hall⟩ := hrel
                by_cases hlt : k < n - 1
                · have hkl : k < d.length := by rw [← Hd.out]; exact hlt
                  have y1 := HRd.out.at k hkl
                  obtain ⟨q, hq⟩ : ∃ q, q = d[k].toNat := ⟨_, rfl⟩
                  rw [← hq] at y1
                  have HQ := Hid.mk hq
                  clear hq
                  by_cases q1 : 48 ≤ q
                  · by_cases q2 : q ≤ 57
                    · have ha : Hid ((d.take (k + 1)).all digit = true) := take_all hkl hall.out (by unfold digit; rw [← HQ.out]; simp [q1, q2])
                      go_wp2
                      exact ⟨⟨by first | exact trivial | rfl, k + 1, by omega, by go_num, ha⟩, by simp [intOf]; omega⟩
                    · have HV : Hid (isNum f = false) := by unfold Hid; rw [HF.out]; exact digs_bad hkl (by unfold digit; rw [← HQ.out]; simp; omega)
                      go_wp2
                      go_ret
                      (rw [HV.out]; exact ⟨rfl, rfl⟩)
                  · have HV : Hid (isNum f = false) := by unfold Hid; rw [HF.out]; exact digs_bad hkl (by unfold digit; rw [← HQ.out]; simp; omega)
                    go_wp2
                    go_ret
                    (rw [HV.out]; exact ⟨rfl, rfl⟩)
                · have HV : Hid (isNum f = true) := by unfold Hid; rw [HF.out]; exact digs_ok (by rw [← Hd.out]; exact hm) (by rw [← Hd.out]; exact m9) (hb'.out) b48 (by have := hall.out; rwa [List.take_of_length_le (by rw [← Hd.out]; omega)] at this)
                  go_wp2
                  go_ret
                  (rw [HV.out]; exact ⟨rfl, rfl⟩)
          · have HV : Hid (isNum f = false) := by unfold Hid; rw [HF.out]; exact digs_long (by rw [← Hd.out]; omega)
            have k2 : ¬ ((n - 1 : Nat) : Int) ≤ 9 := by omega
            go_enter Tryd.func37, Tryd.ntmps37
            go_wp2
            all_goals go_ret
            all_goals (rw [HV.out]; exact ⟨rfl, rfl⟩)
      · have HF := Hid.mk (num_plain hb.out hb45 (by rw [← hN.out]; exact hb48))
        obtain ⟨d, hd⟩ : ∃ d, d = f := ⟨_, rfl⟩
        have HRd : Hid (Rd w (some ⟨g, o, none⟩) d) := by rw [hd]; exact hR
        have Hd : Hid (n = d.length) := by rw [hd]; exact hN
        have hm : 1 ≤ n := by omega
        have HF' : Hid (isNum f = isDigs d) := by rw [hd]; exact HF
        have hbd : Hid (d[0]?.map (·.toNat) = some b) := by rw [hd]; exact hb
        clear HF
        have HF := HF'
        clear HF' hd
        by_cases hn1 : n = 1
        · have nn : ((n : Int) == 1) = true := by simp; omega
          have bb : ((b : Int) == 48) = false := by simp; omega
          have hn1' := Hid.mk hn1
          clear hb48 hn1
          have k1 : (1 : Int) ≤ ((n : Nat) : Int) := by omega
          by_cases m9 : n ≤ 9
          · have k2 : ((n : Nat) : Int) ≤ 9 := by omega
            by_cases b48 : b = 48
            · have HV : Hid (isNum f = false) := by unfold Hid; rw [HF.out]; subst b48; exact digs_zero hbd.out
              have k3 : ((b : Int) == 48) = true := by simp; omega
              have b48' := Hid.mk b48
              clear b48
              go_enter Tryd.func37, Tryd.ntmps37
              go_wp2
              all_goals go_ret
              all_goals (rw [HV.out]; exact ⟨rfl, rfl⟩)
            · have k3 : ((b : Int) == 48) = false := by simp; omega
              go_enter Tryd.func37, Tryd.ntmps37
              go_wp2
              go_loopw [4] (fun i wr => wr = w ∧ ∃ k : Nat, k ≤ n ∧ i = .int .i64 k ∧ Hid ((d.take k).all digit = true)) (fun i _ => (n) - (intOf i).toNat)
              case atStart => exact ⟨rfl, 0, Nat.zero_le _, rfl, by simp [Hid]⟩
              case round =>
                obtain ⟨rfl, k, hk, rfl, hall⟩ := hrel
                by_cases hlt : k < n
                · have hkl : k < d.length := by rw [← Hd.out]; exact hlt
                  have y1 := HRd.out.at k hkl
                  obtain ⟨q, hq⟩ : ∃ q, q = d[k].toNat := ⟨_, rfl⟩
                  rw [← hq] at y1
                  have HQ := Hid.mk hq
                  clear hq
                  by_cases q1 : 48 ≤ q
                  · by_cases q2 : q ≤ 57
                    · have ha : Hid ((d.take (k + 1)).all digit = true) := take_all hkl hall.out (by unfold digit; rw [← HQ.out]; simp [q1, q2])
                      go_wp2
                      exact ⟨⟨by first | exact trivial | rfl, k + 1, by omega, by go_num, ha⟩, by simp [intOf]; omega⟩
                    · have HV : Hid (isNum f = false) := by unfold Hid; rw [HF.out]; exact digs_bad hkl (by unfold digit; rw [← HQ.out]; simp; omega)
                      go_wp2
                      go_ret
                      (rw [HV.out]; exact ⟨rfl, rfl⟩)
                  · have HV : Hid (isNum f = false) := by unfold Hid; rw [HF.out]; exact digs_bad hkl (by unfold digit; rw [← HQ.out]; simp; omega)
                    go_wp2
                    go_ret
                    (rw [HV.out]; exact ⟨rfl, rfl⟩)
                · have HV : Hid (isNum f = true) := by unfold Hid; rw [HF.out]; exact digs_ok (by rw [← Hd.out]; exact hm) (by rw [← Hd.out]; exact m9) (hbd.out) b48 (by have := hall.out; rwa [List.take_of_length_le (by rw [← Hd.out]; omega)] at this)
                  go_wp2
                  go_ret
                  (rw [HV.out]; exact ⟨rfl, rfl⟩)
          · have HV : Hid (isNum f = false) := by unfold Hid; rw [HF.out]; exact digs_long (by rw [← Hd.out]; omega)
            have k2 : ¬ ((n : Nat) : Int) ≤ 9 := by omega
            go_enter Tryd.func37, Tryd.ntmps37
            go_wp2
            all_goals go_ret
            all_goals (rw [HV.out]; exact ⟨rfl, rfl⟩)
        · have nn : ((n : Int) == 1) = false := by simp; omega
          clear hb48
          have k1 : (1 : Int) ≤ ((n : Nat) : Int) := by omega
          by_cases m9 : n ≤ 9
          · have k2 : ((n : Nat) : Int) ≤ 9 := by omega
            by_cases b48 : b = 48
            · have HV : Hid (isNum f = false) := by unfold Hid; rw [HF.out]; subst b48; exact digs_zero hbd.out
              have k3 : ((b : Int) == 48) = true := by simp; omega
              have b48' := Hid.mk b48
              clear b48
              go_enter Tryd.func37, Tryd.ntmps37
              go_wp2
              all_goals go_ret
              all_goals (rw [HV.out]; exact ⟨rfl, rfl⟩)
            · have k3 : ((b : Int) == 48) = false := by simp; omega
              go_enter Tryd.func37, Tryd.ntmps37
              go_wp2
              go_loopw [4] (fun i wr => wr = w ∧ ∃ k : Nat, k ≤ n ∧ i = .int .i64 k ∧ Hid ((d.take k).all digit = true)) (fun i _ => (n) - (intOf i).toNat)
              case atStart => exact ⟨rfl, 0, Nat.zero_le _, rfl, by simp [Hid]⟩
              case round =>
                obtain ⟨rfl, k, hk, rfl, hall⟩ := hrel
                by_cases hlt : k < n
                · have hkl : k < d.length := by rw [← Hd.out]; exact hlt
                  have y1 := HRd.out.at k hkl
                  obtain ⟨q, hq⟩ : ∃ q, q = d[k].toNat := ⟨_, rfl⟩
                  rw [← hq] at y1
                  have HQ := Hid.mk hq
                  clear hq
                  by_cases q1 : 48 ≤ q
                  · by_cases q2 : q ≤ 57
                    · have ha : Hid ((d.take (k + 1)).all digit = true) := take_all hkl hall.out (by unfold digit; rw [← HQ.out]; simp [q1, q2])
                      go_wp2
                      exact ⟨⟨by first | exact trivial | rfl, k + 1, by omega, by go_num, ha⟩, by simp [intOf]; omega⟩
                    · have HV : Hid (isNum f = false) := by unfold Hid; rw [HF.out]; exact digs_bad hkl (by unfold digit; rw [← HQ.out]; simp; omega)
                      go_wp2
                      go_ret
                      (rw [HV.out]; exact ⟨rfl, rfl⟩)
                  · have HV : Hid (isNum f = false) := by unfold Hid; rw [HF.out]; exact digs_bad hkl (by unfold digit; rw [← HQ.out]; simp; omega)
                    go_wp2
                    go_ret
                    (rw [HV.out]; exact ⟨rfl, rfl⟩)
                · have HV : Hid (isNum f = true) := by unfold Hid; rw [HF.out]; exact digs_ok (by rw [← Hd.out]; exact hm) (by rw [← Hd.out]; exact m9) (hbd.out) b48 (by have := hall.out; rwa [List.take_of_length_le (by rw [← Hd.out]; omega)] at this)
                  go_wp2
                  go_ret
                  (rw [HV.out]; exact ⟨rfl, rfl⟩)
          · have HV : Hid (isNum f = false) := by unfold Hid; rw [HF.out]; exact digs_long (by rw [← Hd.out]; omega)
            have k2 : ¬ ((n : Nat) : Int) ≤ 9 := by omega
            go_enter Tryd.func37, Tryd.ntmps37
            go_wp2
            all_goals go_ret
            all_goals (rw [HV.out]; exact ⟨rfl, rfl⟩)
end Go.Proofs.YtfoigigbggickaaDoor.Parse
namespace Go.Proofs.YtfoigigbggickaaDoor.Parse
open Go Go.RowKit Go.Proofs.YtfoigigbggickaaDoor.Mem
set_option linter.unusedVariables false
set_option linter.unusedSimpArgs false
attribute [local go_sem ↓] Go.wp_at_zero Go.wp_at_succ

theorem pow9 {k : Nat} (h : k ≤ 9) : (10 : Int) ^ k ≤ 1000000000 := by
  match k, h with
  | 0, _ | 1, _ | 2, _ | 3, _ | 4, _ | 5, _ | 6, _ | 7, _ | 8, _ | 9, _ => decide

set_option maxHeartbeats 800000 in
set_option maxRecDepth 100000 in
theorem numD : ∀ (k : Nat) (a : Option Addr) (ds : List UInt8) (n c : Nat) (w : World), n = k → n = ds.length → n ≤ c → Rd w a ds → n ≤ 9 → ds.all digit = true →
    Calls Tryd.prog 38 #[.slice a n c] w fun e w' => e = .returned (.int .i64 (dec ds)) ∧ Below w.heap.size w w' := by
  intro k
  induction k with
  | zero =>
    intro a ds n c w hk hn hc hr hl hd
    have hds : ds = [] := List.eq_nil_of_length_eq_zero (by omega)
    have HV : Hid (dec ds = 0) := by subst hds; rfl
    have n1 : ((n : Int) == 0) = true := by simp; omega
    have hk' := Hid.mk hk
    clear hk hn hr hds hd
    go_enter Tryd.func38, Tryd.ntmps38
    go_wp2
    go_ret
    (rw [HV.out]; exact ⟨rfl, Below.refl _ _⟩)
  | succ m ih =>
    intro a ds n c w hk hn hc hr hl hd
    subst hk
    obtain ⟨g, o, rfl⟩ := hr.some (by omega)
    have hR := Hid.mk hr
    have hN := Hid.mk hn
    have HD := Hid.mk hd
    have IH := Hid.mk ih
    have dig : ∀ j (h : j < ds.length), 48 ≤ ds[j].toNat ∧ ds[j].toNat ≤ 57 := fun j h => by
      have := List.all_eq_true.1 hd _ (List.getElem_mem h)
      unfold digit at this
      simpa using this
    obtain ⟨b, x0, hb0, hb1⟩ : ∃ b : Nat, w.cell? ⟨g, o, none⟩ = some (.int .u8 (b : Int)) ∧ 48 ≤ b ∧ b ≤ 57 := by
      have x0 := hr.at 0 (by omega)
      rw [Nat.add_zero] at x0
      exact ⟨_, x0, dig 0 (by omega)⟩
    obtain ⟨l, x1, hl0, hl1, HV⟩ : ∃ l : Nat, w.cell? ⟨g, o + m, none⟩ = some (.int .u8 (l : Int)) ∧ 48 ≤ l ∧ l ≤ 57 ∧ Hid (dec ds = 10 * dec (ds.take m) + l - 48) := by
      have x1 := hr.at m (by omega)
      refine ⟨_, x1, (dig _ _).1, (dig _ _).2, ?_⟩
      unfold Hid
      rw [← dec_snoc, ← List.take_succ_eq_append_getElem, List.take_of_length_le (by omega)]
    have HT : Hid ((ds.take m).all digit = true) := by
      unfold Hid
      rw [List.all_eq_true] at hd ⊢
      exact fun x hx => hd x (List.mem_of_mem_take hx)
    have hbd := dec_bound _ HT.out
    have hlt : (ds.take m).length = m := by rw [List.length_take]; omega
    rw [hlt] at hbd
    have hp := pow9 (k := m) (by omega)
    have HLT := Hid.mk hlt
    obtain ⟨D, hD⟩ : ∃ D, D = dec (ds.take m) := ⟨_, rfl⟩
    rw [← hD] at hbd HV
    have HDD := Hid.mk hD
    have hD0 : 0 ≤ D := hbd.1
    have hD1 : D ≤ 1000000000 := by omega
    have n1 : (((m + 1 : Nat) : Int) == 0) = false := by simp; omega
    have n2 : ((m : Int) + 1 == 0) = false := by simp; omega
    have b45 : ((b : Int) == 45) = false := by simp; omega
    have e1 : wrap64 (((m + 1 : Nat) : Int) - 1) = (m : Int) := by unfold wrap64; omega
    have e2 : wrap64 ((m : Int) + 1 - 1) = (m : Int) := by unfold wrap64; omega
    have e3 : (m : Int) + 1 - 1 = (m : Int) := by omega
    have e4 : IntKind.i64.wrap ((m : Int) + 1 - 1) = (m : Int) := by rw [IntKind.wrap_i64]; omega
    have e5 : IntKind.i64.wrap (m : Int) = (m : Int) := by rw [IntKind.wrap_i64]; omega
    have e6 : IntKind.i64.wrap (((m + 1 : Nat) : Int) - 1) = (m : Int) := by rw [IntKind.wrap_i64]; omega
    have v1 : IntKind.i64.wrap (10 * D) = 10 * D := by rw [IntKind.wrap_i64]; omega
    have v2 : IntKind.i64.wrap (l : Int) = (l : Int) := by rw [IntKind.wrap_i64]; omega
    have v3 : IntKind.i64.wrap (10 * D + (l : Int)) = 10 * D + (l : Int) := by rw [IntKind.wrap_i64]; omega
    have v4 : IntKind.i64.wrap (10 * D + (l : Int) - 48) = 10 * D + (l : Int) - 48 := by rw [IntKind.wrap_i64]; omega
    have k0 : (0 : Int) ≤ (m : Int) := by omega
    have k1 : (m : Int) < (m : Int) + 1 := by omega
    have k2 : (m : Int) ≤ (c : Int) := by omega
    have k3 : m ≤ c := by omega
    clear hr hn hd ih dig hlt hbd hp hD
    go_enter Tryd.func38, Tryd.ntmps38
    go_wp2_with fail
    go_region_held3 (fun w' => w'.cell? ⟨g, o + m, none⟩ = some (.int .u8 (l : Int))) (first | go_keep | exact cell_keep hb1' (by first | assumption | (simp [*]; done)))
      ((go_at_call 38; refine (IH.out (some ⟨g, o, none⟩) (ds.take m) m c _ rfl HLT.out.symm (by omega) ((hR.out.take _).below (by go_grown)) (by omega) HT.out).mono ?_; rintro e w1 ⟨rfl, hb1'⟩; (try rw [← HDD.out])))
    have HB := Hid.mk (below_then (w := w) (Below.refl _ _).drew hb1')
    clear hb1'
    go_wp2
    go_ret
    rw [HV.out]
    exact ⟨rfl, HB.out⟩

theorem digs_facts {d : List UInt8} (h : isDigs d = true) : 1 ≤ d.length ∧ d.length ≤ 9 ∧ d.all digit = true := by
  unfold isDigs at h
  simp only [Bool.and_eq_true, decide_eq_true_eq] at h
  exact ⟨h.1.1.1, h.1.1.2, h.2⟩
theorem num_cases {f : List UInt8} (h : isNum f = true) : (f[0]?.map (·.toNat) = some 45 ∧ isDigs (f.drop 1) = true ∧ num f = - dec (f.drop 1)) ∨ (f.length ≤ 9 ∧ f.all digit = true ∧ num f = dec f) := by
  cases f with
  | nil => simp [isNum, isDigs] at h
  | cons b r =>
    by_cases hb : b = 45
    · subst hb
      have := num_minus (f := 45 :: r) rfl
      exact Or.inl ⟨rfl, by rw [← this.1]; exact h, this.2⟩
    · have e : num (b :: r) = dec (b :: r) := by simp [num, hb]
      unfold isNum at h
      simp only [Bool.or_eq_true] at h
      rcases h with h | h
      · have : b :: r = [48] := by simpa using h
        rw [this]
        exact Or.inr ⟨by simp, by rfl, by rfl⟩
      · rw [if_neg (by simpa using hb)] at h
        have := digs_facts h
        exact Or.inr ⟨this.2.1, this.2.2, e⟩
set_option maxHeartbeats 800000 in
set_option maxRecDepth 100000 in
theorem numS (a : Option Addr) (f : List UInt8) (n c : Nat) (w : World) (hn : n = f.length) (hc : n ≤ c) (hr : Rd w a f) (hv : isNum f = true) :
    Calls Tryd.prog 38 #[.slice a n c] w fun e w' => e = .returned (.int .i64 (num f)) ∧ Below w.heap.size w w' := by
  rcases num_cases hv with ⟨h0, h1, h2⟩ | ⟨h1, h2, h3⟩
  · have hd := digs_facts h1
    rw [List.length_drop] at hd
    obtain ⟨m, rfl⟩ : ∃ m, n = m + 1 := ⟨n - 1, by omega⟩
    obtain ⟨g, o, rfl⟩ := hr.some (by omega)
    have x0 : w.cell? ⟨g, o, none⟩ = some (.int .u8 45) := by
      have := hr.at 0 (by omega)
      rw [Nat.add_zero] at this
      have e : f[0].toNat = 45 := by simpa [show 0 < f.length by omega] using h0
      rw [e] at this
      exact this
    have HR := Hid.mk (hr.drop 1)
    have HD := Hid.mk hd
    have hbd := dec_bound _ hd.2.2
    have hp := pow9 (k := (f.drop 1).length) (by rw [List.length_drop]; exact hd.2.1)
    have HL : Hid (m = (f.drop 1).length) := by unfold Hid; rw [List.length_drop]; omega
    obtain ⟨D, hD⟩ : ∃ D, D = dec (f.drop 1) := ⟨_, rfl⟩
    rw [← hD] at hbd h2
    have HV := Hid.mk h2
    have HDD := Hid.mk hD
    have hD0 : 0 ≤ D := hbd.1
    have hD1 : D ≤ 1000000000 := by omega
    have hm : m ≤ 9 := by omega
    have hc1 : ¬ c = 1 := by omega
    have v1 : IntKind.i64.wrap (-D) = -D := by rw [IntKind.wrap_i64]; omega
    have n2 : ((m : Int) + 1 == 0) = false := by simp; omega
    clear hr hv h0 h1 h2 hd hbd hp hD hn
    go_enter Tryd.func38, Tryd.ntmps38
    go_wp2_with (go_at_call 38; refine (numD m (some ⟨g, o + 1, none⟩) (f.drop 1) m (c - 1) _ rfl HL.out (by omega) HR.out hm HD.out.2.2).mono ?_; rintro e w1 ⟨rfl, hb1⟩; rw [← HDD.out]; have HB := Hid.mk hb1; clear hb1)
    go_ret
    rw [HV.out]
    exact ⟨rfl, HB.out⟩
  · rw [h3]
    exact numD n a f n c w rfl hn hc hr (by omega) h2
end Go.Proofs.YtfoigigbggickaaDoor.Parse
