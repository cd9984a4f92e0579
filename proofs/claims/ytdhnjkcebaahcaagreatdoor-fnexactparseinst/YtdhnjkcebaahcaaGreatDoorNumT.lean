import Derived.Test.YtdhnjkcebaahcaaGreatDoorNumS
namespace Go.Proofs.YtdhnjkcebaahcaaGreatDoor.Parse
open Go Go.RowKit Go.Proofs.YtdhnjkcebaahcaaGreatDoor.Mem
set_option linter.unusedVariables false
set_option linter.unusedSimpArgs false
attribute [local go_sem ↓] Go.wp_at_zero Go.wp_at_succ

theorem pow9 {k : Nat} (h : k ≤ 9) : (10 : Int) ^ k ≤ 1000000000 := by
  match k, h with
  | 0, _ | 1, _ | 2, _ | 3, _ | 4, _ | 5, _ | 6, _ | 7, _ | 8, _ | 9, _ => decide

set_option maxHeartbeats 800000 in
set_option maxRecDepth 100000 in
theorem numD : ∀ (k : Nat) (a : Option Addr) (ds : List UInt8) (n c : Nat) (w : World), n = k → n = ds.length → n ≤ c → Rd w a ds → n ≤ 9 → ds.all digit = true →
    Calls Tryz.prog 22 #[.slice a n c] w fun e w' => e = .returned (.int .i64 (dec ds)) ∧ Below w.heap.size w w' := by
  intro k
  induction k with
  | zero =>
    intro a ds n c w hk hn hc hr hl hd
    have hds : ds = [] := List.eq_nil_of_length_eq_zero (by omega)
    have HV : Hid (dec ds = 0) := by subst hds; rfl
    have n1 : ((n : Int) == 0) = true := by simp; omega
    have hk' := Hid.mk hk
    clear hk hn hr hds hd
    go_enter Tryz.func22, Tryz.ntmps22
    go_wp2
    go_ret
    (rw [HV.out]; exact ⟨rfl, Below.refl _ _⟩)
  | succ m ih =>
    intro a ds n c w hk hn hc hr hl hd
    subst hk
    obtain ⟨g, o, rfl⟩ := hr.some (by omega)
    have hR := Hid.mk hr
    have hN := Hid.mk hn
    have HD := Hid.mk hd
    have IH := Hid.mk ih
    have dig : ∀ j (h : j < ds.length), 48 ≤ ds[j].toNat ∧ ds[j].toNat ≤ 57 := fun j h => by
      have := List.all_eq_true.1 hd _ (List.getElem_mem h)
      unfold digit at this
      simpa using this
    obtain ⟨b, x0, hb0, hb1⟩ : ∃ b : Nat, w.cell? ⟨g, o, none⟩ = some (.int .u8 (b : Int)) ∧ 48 ≤ b ∧ b ≤ 57 := by
      have x0 := hr.at 0 (by omega)
      rw [Nat.add_zero] at x0
      exact ⟨_, x0, dig 0 (by omega)⟩
    obtain ⟨l, x1, hl0, hl1, HV⟩ : ∃ l : Nat, w.cell? ⟨g, o + m, none⟩ = some (.int .u8 (l : Int)) ∧ 48 ≤ l ∧ l ≤ 57 ∧ Hid (dec ds = 10 * dec (ds.take m) + l - 48) := by
      have x1 := hr.at m (by omega)
      refine ⟨_, x1, (dig _ _).1, (dig _ _).2, ?_⟩
      unfold Hid
      rw [← dec_snoc, ← List.take_succ_eq_append_getElem, List.take_of_length_le (by omega)]
    have HT : Hid ((ds.take m).all digit = true) := by
      unfold Hid
      rw [List.all_eq_true] at hd ⊢
      exact fun x hx => hd x (List.mem_of_mem_take hx)
    have hbd := dec_bound _ HT.out
    have hlt : (ds.take m).length = m := by rw [List.length_take]; omega
    rw [hlt] at hbd
    have hp := pow9 (k := m) (by omega)
    have HLT := Hid.mk hlt
    obtain ⟨D, hD⟩ : ∃ D, D = dec (ds.take m) := ⟨_, rfl⟩
    rw [← hD] at hbd HV
    have HDD := Hid.mk hD
    have hD0 : 0 ≤ D := hbd.1
    have hD1 : D ≤ 1000000000 := by omega
    have n1 : (((m + 1 : Nat) : Int) == 0) = false := by simp; omega
    have n2 : ((m : Int) + 1 == 0) = false := by simp; omega
    have b45 : ((b : Int) == 45) = false := by simp; omega
    have e1 : wrap64 (((m + 1 : Nat) : Int) - 1) = (m : Int) := by unfold wrap64; omega
    have e2 : wrap64 ((m : Int) + 1 - 1) = (m : Int) := by unfold wrap64; omega
    have e3 : (m : Int) + 1 - 1 = (m : Int) := by omega
    have e4 : IntKind.i64.wrap ((m : Int) + 1 - 1) = (m : Int) := by rw [IntKind.wrap_i64]; omega
    have e5 : IntKind.i64.wrap (m : Int) = (m : Int) := by rw [IntKind.wrap_i64]; omega
    have e6 : IntKind.i64.wrap (((m + 1 : Nat) : Int) - 1) = (m : Int) := by rw [IntKind.wrap_i64]; omega
    have v1 : IntKind.i64.wrap (10 * D) = 10 * D := by rw [IntKind.wrap_i64]; omega
    have v2 : IntKind.i64.wrap (l : Int) = (l : Int) := by rw [IntKind.wrap_i64]; omega
    have v3 : IntKind.i64.wrap (10 * D + (l : Int)) = 10 * D + (l : Int) := by rw [IntKind.wrap_i64]; omega
    have v4 : IntKind.i64.wrap (10 * D + (l : Int) - 48) = 10 * D + (l : Int) - 48 := by rw [IntKind.wrap_i64]; omega
    have k0 : (0 : Int) ≤ (m : Int) := by omega
    have k1 : (m : Int) < (m : Int) + 1 := by omega
    have k2 : (m : Int) ≤ (c : Int) := by omega
    have k3 : m ≤ c := by omega
    clear hr hn hd ih dig hlt hbd hp hD
    go_enter Tryz.func22, Tryz.ntmps22
    go_wp2_with fail
    go_region_held3 (fun w' => w'.cell? ⟨g, o + m, none⟩ = some (.int .u8 (l : Int))) (first | go_keep | exact cell_keep hb1' (by first | assumption | (simp [*]; done)))
      ((go_at_call 22; refine (IH.out (some ⟨g, o, none⟩) (ds.take m) m c _ rfl HLT.out.symm (by omega) ((hR.out.take _).below (by go_grown)) (by omega) HT.out).mono ?_; rintro e w1 ⟨rfl, hb1'⟩; (try rw [← HDD.out])))
    have HB := Hid.mk (below_then (w := w) (Below.refl _ _).drew hb1')
    clear hb1'
    go_wp2
    go_ret
    rw [HV.out]
    exact ⟨rfl, HB.out⟩

theorem digs_facts {d : List UInt8} (h : isDigs d = true) : 1 ≤ d.length ∧ d.length ≤ 9 ∧ d.all digit = true := by
  unfold isDigs at h
  simp only [Bool.and_eq_true, decide_eq_true_eq] at h
  exact ⟨h.1.1.1, h.1.1.2, h.2⟩
theorem num_cases {f : List UInt8} (h : isNum f = true) : (f[0]?.map (·.toNat) = some 45 ∧ isDigs (f.drop 1) = true ∧ num f = - dec (f.drop 1)) ∨ (f.length ≤ 9 ∧ f.all digit = true ∧ num f = dec f) := by
  cases f with
  | nil => simp [isNum, isDigs] at h
  | cons b r =>
    by_cases hb : b = 45
    · subst hb
      have := num_minus (f := 45 :: r) rfl
      exact Or.inl ⟨rfl, by rw [← this.1]; exact h, this.2⟩
    · have e : num (b :: r) = dec (b :: r) := by simp [num, hb]
      unfold isNum at h
      simp only [Bool.or_eq_true] at h
      rcases h with h | h
      · have : b :: r = [48] := by simpa using h
        rw [this]
        exact Or.inr ⟨by simp, by rfl, by rfl⟩
      · rw [if_neg (by simpa using hb)] at h
        have := digs_facts h
        exact Or.inr ⟨this.2.1, this.2.2, e⟩
theorem num_bound {f : List UInt8} (h : isNum f = true) : -1000000000 < num f ∧ num f < 1000000000 := by
  rcases num_cases h with ⟨-, h1, h2⟩ | ⟨h1, h2, h3⟩
  · have := digs_facts h1
    have hb := dec_bound _ this.2.2
    have := pow9 this.2.1
    omega
  · have hb := dec_bound _ h2
    have := pow9 h1
    omega

set_option maxHeartbeats 800000 in
set_option maxRecDepth 100000 in
theorem numS (a : Option Addr) (f : List UInt8) (n c : Nat) (w : World) (hn : n = f.length) (hc : n ≤ c) (hr : Rd w a f) (hv : isNum f = true) :
    Calls Tryz.prog 22 #[.slice a n c] w fun e w' => e = .returned (.int .i64 (num f)) ∧ Below w.heap.size w w' := by
  rcases num_cases hv with ⟨h0, h1, h2⟩ | ⟨h1, h2, h3⟩
  · have hd := digs_facts h1
    rw [List.length_drop] at hd
    obtain ⟨m, rfl⟩ : ∃ m, n = m + 1 := ⟨n - 1, by omega⟩
    obtain ⟨g, o, rfl⟩ := hr.some (by omega)
    have x0 : w.cell? ⟨g, o, none⟩ = some (.int .u8 45) := by
      have := hr.at 0 (by omega)
      rw [Nat.add_zero] at this
      have e : f[0].toNat = 45 := by simpa [show 0 < f.length by omega] using h0
      rw [e] at this
      exact this
    have HR := Hid.mk (hr.drop 1)
    have HD := Hid.mk hd
    have hbd := dec_bound _ hd.2.2
    have hp := pow9 (k := (f.drop 1).length) (by rw [List.length_drop]; exact hd.2.1)
    have HL : Hid (m = (f.drop 1).length) := by unfold Hid; rw [List.length_drop]; omega
    obtain ⟨D, hD⟩ : ∃ D, D = dec (f.drop 1) := ⟨_, rfl⟩
    rw [← hD] at hbd h2
    have HV := Hid.mk h2
    have HDD := Hid.mk hD
    have hD0 : 0 ≤ D := hbd.1
    have hD1 : D ≤ 1000000000 := by omega
    have hm : m ≤ 9 := by omega
    have hc1 : ¬ c = 1 := by omega
    have v1 : IntKind.i64.wrap (-D) = -D := by rw [IntKind.wrap_i64]; omega
    have n2 : ((m : Int) + 1 == 0) = false := by simp; omega
    clear hr hv h0 h1 h2 hd hbd hp hD hn
    go_enter Tryz.func22, Tryz.ntmps22
    go_wp2_with (go_at_call 22; refine (numD m (some ⟨g, o + 1, none⟩) (f.drop 1) m (c - 1) _ rfl HL.out (by omega) HR.out hm HD.out.2.2).mono ?_; rintro e w1 ⟨rfl, hb1⟩; rw [← HDD.out]; have HB := Hid.mk hb1; clear hb1)
    go_ret
    rw [HV.out]
    exact ⟨rfl, HB.out⟩
  · rw [h3]
    exact numD n a f n c w rfl hn hc hr (by omega) h2
end Go.Proofs.YtdhnjkcebaahcaaGreatDoor.Parse
