import Derived.Test.YtefkdpppcjlflaaGreatDoorIt02
import Derived.Deep.DrawnRows
import Derived.Lib.BytesEntry
import Derived.WalkSmall
import Derived.Laws.IdiomStrings
namespace Go.Proofs.YtefkdpppcjlflaaGreatDoor.Parse
open Go Go.RowKit Go.Proofs.YtefkdpppcjlflaaGreatDoor.Mem
set_option linter.unusedVariables false
set_option linter.unusedSimpArgs false
attribute [local go_sem ↓] Go.wp_at_zero Go.wp_at_succ

theorem digitI (q : Nat) (w : World) : Calls Tryz.prog 97 #[.int .u8 (q : Int)] w fun e w' => e = .returned (.bool (decide (48 ≤ q) && decide (q ≤ 57))) ∧ w' = w := by
  by_cases h1 : 48 ≤ q
  · have g1 : (48 : Int) ≤ (q : Int) := by omega
    by_cases h2 : q ≤ 57
    · have g2 : (q : Int) ≤ 57 := by omega
      go_enter Tryz.func97, Tryz.ntmps97
      go_wp2
      go_ret
      exact ⟨by simp [h1, h2], rfl⟩
    · have g2 : decide ((q : Int) ≤ 57) = false := by simp; omega
      go_enter Tryz.func97, Tryz.ntmps97
      go_wp2
      go_ret
      exact ⟨by simp [h1, h2], rfl⟩
  · have g1 : decide ((48 : Int) ≤ (q : Int)) = false := by simp; omega
    go_enter Tryz.func97, Tryz.ntmps97
    go_wp2
    go_ret
    exact ⟨by simp [h1], rfl⟩

def plainR (d : List UInt8) : Value := .tuple #[.int .i64 (if plain d then dec d else 0), .bool (plain d)]
theorem plainR_bad {d : List UInt8} (h : plain d = false) : plainR d = .tuple #[.int .i64 0, .bool false] := by unfold plainR; rw [h]; rfl
theorem plain_bad {d : List UInt8} {k : Nat} (hk : k < d.length) (h : digit d[k] = false) : plain d = false := by
  have : d.all digit = false := by
    rw [List.all_eq_false]
    exact ⟨d[k], List.getElem_mem hk, by rw [h]; simp⟩
  simp [plain, this]
theorem plain_all {d : List UInt8} {k : Nat} (hk : k < d.length) (h : (d.take k).all digit = true) (h' : digit d[k] = true) : (d.take (k + 1)).all digit = true := by
  rw [List.take_succ_eq_append_getElem hk, List.all_append, h]
  simp [h']
theorem dec_take {d : List UInt8} {k : Nat} (hk : k < d.length) : dec (d.take (k + 1)) = 10 * dec (d.take k) + d[k].toNat - 48 := by
  rw [List.take_succ_eq_append_getElem hk, dec_snoc]
theorem dec_small {d : List UInt8} {k : Nat} (hk : k ≤ 9) (h : (d.take k).all digit = true) : 0 ≤ dec (d.take k) ∧ dec (d.take k) ≤ 1000000000 := by
  have hb := dec_bound _ h
  have hl : (d.take k).length ≤ 9 := by rw [List.length_take]; omega
  generalize (d.take k).length = m at *
  refine ⟨hb.1, ?_⟩
  have : (10 : Int) ^ m ≤ 1000000000 := by
    match m, hl with
    | 0, _ | 1, _ | 2, _ | 3, _ | 4, _ | 5, _ | 6, _ | 7, _ | 8, _ | 9, _ => decide
  omega

set_option maxHeartbeats 1600000 in
set_option maxRecDepth 100000 in
theorem plainI (a : Option Addr) (d : List UInt8) (n c : Nat) (w : World) (hn : n = d.length) (hr : Rd w a d) :
    Calls Tryz.prog 92 #[.slice a n c] w fun e w' => e = .returned (plainR d) ∧ w' = w := by
  by_cases h0 : n = 0
  · have HV : Hid (plainR d = .tuple #[.int .i64 0, .bool false]) := plainR_bad (by simp [plain]; omega)
    have n1 : ((n : Int) == 0) = true := by simp; omega
    clear h0 hn hr
    go_enter Tryz.func92, Tryz.ntmps92
    go_wp2
    go_ret2
    (rw [HV.out]; exact ⟨rfl, rfl⟩)
  · obtain ⟨g, o, rfl⟩ := hr.some (by omega)
    have n1 : ((n : Int) == 0) = false := by simp; omega
    by_cases h9 : 9 < n
    · have HV : Hid (plainR d = .tuple #[.int .i64 0, .bool false]) := plainR_bad (by simp [plain]; intros; omega)
      have n2 : (9 : Int) < (n : Int) := by omega
      clear h0 hn hr
      go_enter Tryz.func92, Tryz.ntmps92
      go_wp2
      go_ret2
      (rw [HV.out]; exact ⟨rfl, rfl⟩)
    · have n2 : decide ((9 : Int) < (n : Int)) = false := by simp; omega
      have hR := Hid.mk hr
      have hN := Hid.mk hn
      obtain ⟨b, x0, hb⟩ : ∃ b : Nat, w.cell? ⟨g, o, none⟩ = some (.int .u8 (b : Int)) ∧ Hid (d.head?.map (·.toNat) = some b) := by
        have x0 := hr.at 0 (by omega)
        rw [Nat.add_zero] at x0
        exact ⟨_, x0, by unfold Hid; cases d with | nil => simp at hn; omega | cons x r => rfl⟩
      clear hr hn
      by_cases h1 : 1 < n ∧ b = 48
      · have HV : Hid (plainR d = .tuple #[.int .i64 0, .bool false]) := plainR_bad (by
          have hb' := hb.out
          have hn' := hN.out
          cases d with
          | nil => simp at hb'
          | cons x r =>
            simp at hb'
            have : x = 48 := UInt8.toNat_inj.1 (by rw [hb', h1.2]; rfl)
            subst this
            have h2 : 1 < (48 :: r : List UInt8).length := by omega
            simp only [plain, List.head?_cons, beq_self_eq_true, Bool.and_true, h2, decide_true, Bool.not_true, Bool.and_false, Bool.false_and])
        have n3 : (1 : Int) < (n : Int) := by omega
        have b1 : ((b : Int) == 48) = true := by simp; omega
        clear h1 h0
        go_enter Tryz.func92, Tryz.ntmps92
        go_wp2
        go_ret2
        (rw [HV.out]; exact ⟨rfl, rfl⟩)
      · have HP : Hid (plain d = d.all digit) := by
          have hb' := hb.out
          have hn' := hN.out
          unfold Hid
          have e1 : decide (1 ≤ d.length) = true := by simp; omega
          have e2 : decide (d.length ≤ 9) = true := by simp; omega
          have e3 : (decide (1 < d.length) && (d.head? == some 48)) = false := by
            cases d with
            | nil => rfl
            | cons x r =>
              simp at hb'
              by_cases hx : x = 48
              · subst hx
                have : b = 48 := hb'.symm
                have : ¬ 1 < n := fun h => h1 ⟨h, this⟩
                have : ¬ 1 < (48 :: r : List UInt8).length := by omega
                simp only [this, decide_false, Bool.false_and]
              · simp [hx]
          unfold plain
          rw [e1, e2, e3]; rfl
        have body : Hid (∀ st : Nat, True) := fun _ => trivial
        by_cases h2 : 1 < n
        · have n3 : (1 : Int) < (n : Int) := by omega
          have b1 : ((b : Int) == 48) = false := by simp; omega
          have h1' := Hid.mk h1
          clear h1 h0 body
          go_enter Tryz.func92, Tryz.ntmps92
          go_wp2
          clear x0
          go_loopw [4, 28] (fun v i wr => wr = w ∧ ∃ k : Nat, k ≤ n ∧ i = .int .i64 k ∧ ∃ D : Int, v = .int .i64 D ∧ 0 ≤ D ∧ D ≤ 1000000000 ∧ Hid (D = dec (d.take k)) ∧ Hid ((d.take k).all digit = true)) (fun _ i _ => n - (intOf i).toNat)
          case atStart => exact ⟨rfl, 0, Nat.zero_le _, rfl, 0, rfl, Int.le_refl _, by decide, by simp [Hid, dec], by simp [Hid]⟩
          case round =>
            obtain ⟨rfl, k, hk, rfl, D, rfl, hD0, hD1, hD, hall⟩ := hrel
            by_cases hlt : k < n
            · have hkl : k < d.length := by rw [← hN.out]; exact hlt
              have y1 := hR.out.at k hkl
              obtain ⟨q, hq⟩ : ∃ q, q = d[k].toNat := ⟨_, rfl⟩
              rw [← hq] at y1
              have HQ := Hid.mk hq
              clear hq
              have k1 : (k : Int) < (n : Int) := by omega
              by_cases hg : 48 ≤ q ∧ q ≤ 57
              · have dg : digit d[k] = true := by unfold digit; rw [← HQ.out]; simp [hg.1, hg.2]
                have ha : Hid ((d.take (k + 1)).all digit = true) := plain_all hkl hall.out dg
                have hs := dec_small (k := k + 1) (by omega) ha.out
                rw [dec_take hkl, ← hD.out, ← HQ.out] at hs
                have hD' : Hid (10 * D + ((q : Int) - 48) = dec (d.take (k + 1))) := by unfold Hid; rw [dec_take hkl, ← hD.out, ← HQ.out]; omega
                have q1 : IntKind.u8.wrap ((q : Int) - 48) = (q : Int) - 48 := by rw [IntKind.wrap_u8]; omega
                have q2 : IntKind.i64.wrap ((q : Int) - 48) = (q : Int) - 48 := by rw [IntKind.wrap_i64]; omega
                have q3 : IntKind.i64.wrap (10 * D) = 10 * D := by rw [IntKind.wrap_i64]; omega
                have q4 : IntKind.i64.wrap (10 * D + ((q : Int) - 48)) = 10 * D + ((q : Int) - 48) := by rw [IntKind.wrap_i64]; omega
                have gb : (decide (48 ≤ q) && decide (q ≤ 57)) = true := by simp [hg.1, hg.2]
                go_wp2_with (go_at_call 97; refine (digitI q _).mono ?_; rintro e w1 ⟨rfl, rfl⟩; rw [gb])
                exact ⟨⟨by first | exact trivial | rfl, k + 1, by omega, by go_num, 10 * D + ((q : Int) - 48), by first | rfl | simp [q4], by omega, by omega, hD', ha⟩, by simp [intOf]; omega⟩
              · have HV : Hid (plainR d = .tuple #[.int .i64 0, .bool false]) := plainR_bad (plain_bad hkl (by unfold digit; rw [← HQ.out]; simp; omega))
                have gb : (decide (48 ≤ q) && decide (q ≤ 57)) = false := by simp; omega
                clear hg
                go_wp2_with (go_at_call 97; refine (digitI q _).mono ?_; rintro e w1 ⟨rfl, rfl⟩; rw [gb])
                go_ret2
                (rw [HV.out]; exact ⟨rfl, rfl⟩)
            · obtain rfl : k = n := by omega
              have et : d.take k = d := List.take_of_length_le (by rw [← hN.out]; omega)
              have HV : Hid (plainR d = .tuple #[.int .i64 D, .bool true]) := by
                unfold Hid plainR
                have := hall.out
                rw [et] at this
                rw [HP.out, this, hD.out, et]; rfl
              clear et
              have k1 : decide ((k : Int) < (k : Int)) = false := by simp
              go_wp2
              go_ret2
              (rw [HV.out]; exact ⟨rfl, rfl⟩)
        · have n3 : decide ((1 : Int) < (n : Int)) = false := by simp; omega
          have h1' := Hid.mk h1
          have h2' := Hid.mk h2
          clear h1 h0 body h2
          go_enter Tryz.func92, Tryz.ntmps92
          go_wp2
          clear x0
          go_loopw [4, 28] (fun v i wr => wr = w ∧ ∃ k : Nat, k ≤ n ∧ i = .int .i64 k ∧ ∃ D : Int, v = .int .i64 D ∧ 0 ≤ D ∧ D ≤ 1000000000 ∧ Hid (D = dec (d.take k)) ∧ Hid ((d.take k).all digit = true)) (fun _ i _ => n - (intOf i).toNat)
          case atStart => exact ⟨rfl, 0, Nat.zero_le _, rfl, 0, rfl, Int.le_refl _, by decide, by simp [Hid, dec], by simp [Hid]⟩
          case round =>
            obtain ⟨rfl, k, hk, rfl, D, rfl, hD0, hD1, hD, hall⟩ := hrel
            by_cases hlt : k < n
            · have hkl : k < d.length := by rw [← hN.out]; exact hlt
              have y1 := hR.out.at k hkl
              obtain ⟨q, hq⟩ : ∃ q, q = d[k].toNat := ⟨_, rfl⟩
              rw [← hq] at y1
              have HQ := Hid.mk hq
              clear hq
              have k1 : (k : Int) < (n : Int) := by omega
              by_cases hg : 48 ≤ q ∧ q ≤ 57
              · have dg : digit d[k] = true := by unfold digit; rw [← HQ.out]; simp [hg.1, hg.2]
                have ha : Hid ((d.take (k + 1)).all digit = true) := plain_all hkl hall.out dg
                have hs := dec_small (k := k + 1) (by omega) ha.out
                rw [dec_take hkl, ← hD.out, ← HQ.out] at hs
                have hD' : Hid (10 * D + ((q : Int) - 48) = dec (d.take (k + 1))) := by unfold Hid; rw [dec_take hkl, ← hD.out, ← HQ.out]; omega
                have q1 : IntKind.u8.wrap ((q : Int) - 48) = (q : Int) - 48 := by rw [IntKind.wrap_u8]; omega
                have q2 : IntKind.i64.wrap ((q : Int) - 48) = (q : Int) - 48 := by rw [IntKind.wrap_i64]; omega
                have q3 : IntKind.i64.wrap (10 * D) = 10 * D := by rw [IntKind.wrap_i64]; omega
                have q4 : IntKind.i64.wrap (10 * D + ((q : Int) - 48)) = 10 * D + ((q : Int) - 48) := by rw [IntKind.wrap_i64]; omega
                have gb : (decide (48 ≤ q) && decide (q ≤ 57)) = true := by simp [hg.1, hg.2]
                go_wp2_with (go_at_call 97; refine (digitI q _).mono ?_; rintro e w1 ⟨rfl, rfl⟩; rw [gb])
                exact ⟨⟨by first | exact trivial | rfl, k + 1, by omega, by go_num, 10 * D + ((q : Int) - 48), by first | rfl | simp [q4], by omega, by omega, hD', ha⟩, by simp [intOf]; omega⟩
              · have HV : Hid (plainR d = .tuple #[.int .i64 0, .bool false]) := plainR_bad (plain_bad hkl (by unfold digit; rw [← HQ.out]; simp; omega))
                have gb : (decide (48 ≤ q) && decide (q ≤ 57)) = false := by simp; omega
                clear hg
                go_wp2_with (go_at_call 97; refine (digitI q _).mono ?_; rintro e w1 ⟨rfl, rfl⟩; rw [gb])
                go_ret2
                (rw [HV.out]; exact ⟨rfl, rfl⟩)
            · obtain rfl : k = n := by omega
              have et : d.take k = d := List.take_of_length_le (by rw [← hN.out]; omega)
              have HV : Hid (plainR d = .tuple #[.int .i64 D, .bool true]) := by
                unfold Hid plainR
                have := hall.out
                rw [et] at this
                rw [HP.out, this, hD.out, et]; rfl
              clear et
              have k1 : decide ((k : Int) < (k : Int)) = false := by simp
              go_wp2
              go_ret2
              (rw [HV.out]; exact ⟨rfl, rfl⟩)
end Go.Proofs.YtefkdpppcjlflaaGreatDoor.Parse
namespace Go.Proofs.YtefkdpppcjlflaaGreatDoor.Parse
open Go Go.RowKit Go.Proofs.YtefkdpppcjlflaaGreatDoor.Mem
set_option linter.unusedVariables false
set_option linter.unusedSimpArgs false
attribute [local go_sem ↓] Go.wp_at_zero Go.wp_at_succ

/-- The part ahead of the first sep, and the part behind it. -/
def hd (sep : UInt8) (bs : List UInt8) : List UInt8 := bs.takeWhile (fun b => b != sep)
def tl (sep : UInt8) (bs : List UInt8) : List UInt8 := bs.drop ((hd sep bs).length + 1)
theorem hd_at {bs : List UInt8} {sep : UInt8} {k : Nat} (h : Lib.indexByte bs sep = k) : k < bs.length ∧ hd sep bs = bs.take k ∧ tl sep bs = bs.drop (k + 1) ∧ sep ∈ bs := by
  obtain ⟨hk, e, hn⟩ := at_index h
  have h1 : hd sep bs = bs.take k := by
    unfold hd
    generalize ha : bs.take k = x at *
    generalize hb : bs.drop (k + 1) = y at *
    rw [e, List.takeWhile_append_of_pos (by intro a hm; simp; intro e'; subst e'; exact hn hm)]
    simp
  refine ⟨hk, h1, ?_, ?_⟩
  · unfold tl
    rw [h1, List.length_take, Nat.min_eq_left (by omega)]
  · rw [e]; simp
theorem hd_none {bs : List UInt8} {sep : UInt8} (h : sep ∉ bs) : hd sep bs = bs ∧ tl sep bs = [] := by
  have h1 : hd sep bs = bs := by
    have := List.takeWhile_append_of_pos (p := fun b => b != sep) (l₁ := bs) (l₂ := []) (by intro a hm; simp; intro e'; subst e'; exact h hm)
    simpa [hd] using this
  refine ⟨h1, ?_⟩
  unfold tl
  rw [h1]
  exact List.drop_eq_nil_of_le (by omega)
theorem split_hd (sep : UInt8) (bs : List UInt8) : split sep bs = hd sep bs :: (if sep ∈ bs then split sep (tl sep bs) else []) := by
  by_cases h : sep ∈ bs
  · rw [if_pos h]
    have hi : 0 ≤ Lib.indexByte bs sep := by
      have := Lib.indexByte_ge bs sep
      by_cases h1 : Lib.indexByte bs sep = -1
      · exact absurd h (index_none h1)
      · omega
    obtain ⟨k, hk⟩ := Int.eq_ofNat_of_zero_le hi
    obtain ⟨h1, e, hn⟩ := at_index hk
    obtain ⟨-, e1, e2, -⟩ := hd_at hk
    rw [e1, e2]
    conv => lhs; rw [e]
    exact split_cut hn
  · rw [if_neg h, split_no h, (hd_none h).1]

/-- A row of bytes below block B, or of no byte. -/
def Txt (B : Nat) (w : World) (v : Value) (bs : List UInt8) : Prop :=
  ∃ p c, v = .slice p bs.length c ∧ bs.length ≤ c ∧ ((p = none ∧ c = 0) ∨ ∃ g o, p = some ⟨g, o, none⟩ ∧ ∀ j (h : j < bs.length), g < B ∧ w.cell? ⟨g, o + j, none⟩ = some (.int .u8 (bs[j].toNat : Int)))
theorem Txt.below {B : Nat} {w w' : World} {v : Value} {bs : List UInt8} (h : Txt B w v bs) (hb : Below B w w') : Txt B w' v bs := by
  obtain ⟨p, c, e, hc, h⟩ := h
  refine ⟨p, c, e, hc, ?_⟩
  rcases h with h | ⟨g, o, e1, h⟩
  · exact Or.inl h
  · refine Or.inr ⟨g, o, e1, fun j hj => ⟨(h j hj).1, ?_⟩⟩
    rw [hb.cell (p := ⟨g, o + j, none⟩) (h j hj).1]; exact (h j hj).2
theorem Txt.rd {B : Nat} {w : World} {v : Value} {bs : List UInt8} (h : Txt B w v bs) : ∃ p c, v = .slice p bs.length c ∧ bs.length ≤ c ∧ ((p = none ∧ c = 0) ∨ ∃ g o, p = some ⟨g, o, none⟩) ∧ Rd w p bs := by
  obtain ⟨p, c, e, hc, h⟩ := h
  rcases h with ⟨rfl, rfl⟩ | ⟨g, o, rfl, h⟩
  · exact ⟨none, 0, e, hc, Or.inl ⟨rfl, rfl⟩, fun j hj => by omega⟩
  · exact ⟨_, c, e, hc, Or.inr ⟨g, o, rfl⟩, fun j hj => ⟨g, o, rfl, (h j hj).2⟩⟩
theorem Txt.nil (B : Nat) (w : World) : Txt B w (.slice none 0 0) [] := ⟨none, 0, rfl, Nat.le_refl _, Or.inl ⟨rfl, rfl⟩⟩
theorem Txt.take {B : Nat} {w : World} {p : Option Addr} {c : Nat} {bs : List UInt8} {n : Nat} (h : Txt B w (.slice p n c) bs) (k : Nat) (hk : k ≤ bs.length) : Txt B w (.slice p k c) (bs.take k) := by
  obtain ⟨p', c', e, hc, h⟩ := h
  injection e with e1 e2 e3
  subst e1 e2 e3
  refine ⟨p, c, by rw [List.length_take, Nat.min_eq_left hk], by rw [List.length_take]; omega, ?_⟩
  rcases h with h | ⟨g, o, e1, h⟩
  · exact Or.inl h
  · refine Or.inr ⟨g, o, e1, fun j hj => ?_⟩
    rw [List.length_take] at hj
    rw [List.getElem_take]
    exact h j (by omega)
theorem Txt.drop {B : Nat} {w : World} {g o c : Nat} {bs : List UInt8} {n : Nat} (h : Txt B w (.slice (some ⟨g, o, none⟩) n c) bs) (k : Nat) (hk : k ≤ bs.length) : Txt B w (.slice (some ⟨g, o + k, none⟩) (n - k) (c - k)) (bs.drop k) := by
  obtain ⟨p', c', e, hc, h⟩ := h
  injection e with e1 e2 e3
  subst e1 e2 e3
  refine ⟨_, _, by rw [List.length_drop], by rw [List.length_drop]; omega, Or.inr ⟨g, o + k, rfl, fun j hj => ?_⟩⟩
  rcases h with ⟨h, -⟩ | ⟨g', o', e1, h⟩
  · cases h
  · injection e1 with e1
    injection e1 with e1 e2
    subst e1 e2
    rw [List.length_drop] at hj
    rw [List.getElem_drop, Nat.add_assoc]
    exact h (k + j) (by omega)
theorem Txt.end {B : Nat} {w : World} (g o : Nat) (c : Nat) : Txt B w (.slice (some ⟨g, o, none⟩) 0 c) [] := ⟨_, _, rfl, by simp, Or.inr ⟨g, o, rfl, fun j hj => by simp at hj⟩⟩

def ints (bs : List UInt8) : List Int := bs.map (fun b => (b.toNat : Int))
theorem bytes_ints (bs : List UInt8) : Lib.bytesOf (ints bs) = bs := by
  unfold Lib.bytesOf ints
  rw [List.map_map]
  conv => rhs; rw [← List.map_id bs]
  apply List.map_congr_left
  intro b _
  simp
theorem Rd.ints {w : World} {g o : Nat} {bs : List UInt8} (h : Rd w (Option.some ⟨g, o, none⟩) bs) : ∀ i, i < bs.length → w.cell? ⟨g, o + i, none⟩ = Option.some (.int .u8 ((Parse.ints bs).getD i 0)) := fun i hi => by
  rw [h.at i hi]
  simp [Parse.ints, List.getD, hi]

theorem run_countBytes {P : Program} (w : World) (g o n c : Nat) (bs : List UInt8) (hn : n = bs.length) (h : Rd w (some ⟨g, o, none⟩) bs) (sep : UInt8) :
    (Extern.BytealgCount.count #[.slice (some ⟨g, o, none⟩) n c, .int .u8 (sep.toNat : Int)]).run P w = .ok (.int .i64 (bs.count sep : Nat)) w := by
  have hl := Lib.run_loadBytesX (P := P) w (ints bs) ⟨g, o, none⟩ .empty (fun j x hj => by
    have hjl : j < bs.length := by have := (List.getElem?_eq_some_iff.1 hj).1; simpa [ints] using this
    have e : (⟨g, o, none⟩ : Addr).add j = ⟨g, o + j, none⟩ := by unfold Addr.add; split <;> simp_all
    rw [e, h.ints j hjl, List.getD_eq_getElem?_getD, hj]
    rfl)
  have hx : (ints bs).length = n := by rw [hn]; simp [ints]
  rw [hx, bytes_ints] at hl
  have he : (⟨ByteArray.empty.data ++ bs.toArray⟩ : ByteArray) = ⟨bs.toArray⟩ := by
    apply ByteArray.ext
    show (#[] : Array UInt8) ++ bs.toArray = bs.toArray
    simp
  rw [he] at hl
  have hs := Lib.run_countString (P := P) ⟨bs.toArray⟩ (sep.toNat : Int) w
  have hf : ∀ v, Extern.BytealgCount.count #[v, .int .u8 (sep.toNat : Int)] = (Extern.Bytes.bytesOf v >>= fun b => Extern.BytealgCount.count #[.string b, .int .u8 (sep.toNat : Int)]) := fun v => rfl
  rw [hf]
  simp only [Extern.Bytes.bytesOf, Sem.run_bind, Sem.run_pure, hl, Result.andThen]
  rw [hs]
  simp [Lib.countByte]

/-! The functions of package bytes at a separator of one byte. -/
set_option maxHeartbeats 1600000 in
set_option maxRecDepth 1000000 in
theorem indexByteI (B : Nat) (v : Value) (bs : List UInt8) (sep : UInt8) (w : World) (h : Txt B w v bs) :
    Calls Tryz.prog 64 #[v, .int .u8 (sep.toNat : Int)] w fun e w' => e = .returned (.int .i64 (Lib.indexByte bs sep)) ∧ w' = w := by
  obtain ⟨p, c, rfl, hc, hp, hr⟩ := h.rd
  rcases hp with ⟨rfl, rfl⟩ | ⟨g, o, rfl⟩
  · obtain rfl : bs = [] := List.eq_nil_of_length_eq_zero (by omega)
    go_enter Tryz.func64, Tryz.ntmps64
    go_wp2
    rw [run_callFunc_extern Tryz.func78 (by kernel_rfl) (by kernel_rfl) (by kernel_rfl) (e := Extern.BytealgIndexByte.indexByte) (by kernel_rfl), Lib.run_indexByteNil]
    simp only [Result.andThen]
    rw [Oper.upon_value]
    go_wp2
    go_ret
    exact ⟨rfl, rfl⟩
  · have hrun := Lib.run_indexByteSlice (P := Tryz.prog) w g o bs.length c (ints bs) (by simp [ints]) hr.ints (sep.toNat : Int)
    rw [bytes_ints, show ((sep.toNat : Int)).toNat.toUInt8 = sep by simp] at hrun
    go_enter Tryz.func64, Tryz.ntmps64
    go_wp2
    rw [run_callFunc_extern Tryz.func78 (by kernel_rfl) (by kernel_rfl) (by kernel_rfl) (e := Extern.BytealgIndexByte.indexByte) (by kernel_rfl), hrun]
    simp only [Result.andThen]
    rw [Oper.upon_value]
    go_wp2
    go_ret
    exact ⟨rfl, rfl⟩
set_option maxHeartbeats 1600000 in
set_option maxRecDepth 1000000 in
theorem indexI (B : Nat) (v : Value) (bs : List UInt8) (sep : UInt8) (z : Int) (g2 d : Nat) (w : World) (h : Txt B w v bs) (hz : z = (sep.toNat : Int)) (h2 : w.cell? ⟨g2, 0, none⟩ = some (.int .u8 z)) :
    Calls Tryz.prog 51 #[v, .slice (some ⟨g2, 0, none⟩) 1 d] w fun e w' => e = .returned (.int .i64 (Lib.indexByte bs sep)) ∧ w' = w := by
  have H := Hid.mk h
  have HZ := Hid.mk hz
  clear h hz
  go_enter Tryz.func51, Tryz.ntmps51
  go_wp2_with (go_at_call 64; rw [HZ.out]; refine (indexByteI B v bs sep _ H.out).mono ?_; rintro e w1 ⟨rfl, rfl⟩)
  go_ret
  exact ⟨rfl, rfl⟩
end Go.Proofs.YtefkdpppcjlflaaGreatDoor.Parse
namespace Go.Proofs.YtefkdpppcjlflaaGreatDoor.Parse
open Go Go.RowKit Go.Proofs.YtefkdpppcjlflaaGreatDoor.Mem
set_option linter.unusedVariables false
set_option linter.unusedSimpArgs false

/-- 'string(b)' of bytes that can be read. -/
theorem conv_rd {P : Program} (w : World) (src dst e : TypeId) (a : Option Addr) (n c : Nat) (f : List UInt8) (hn : n = f.length) (hr : Rd w a f) (hs : P.underlying src = some (.slice e)) (he : P.underlying e = some (.int .u8)) (hd : P.underlying dst = some .string) :
    (convert src dst (.slice a n c)).run P w = .ok (.string ⟨f.toArray⟩) w := by
  by_cases h0 : n = 0
  · have : f = [] := List.eq_nil_of_length_eq_zero (by omega)
    subst this
    subst h0
    rw [run_convert_bytes_string w src dst e _ 0 c hs he hd]
    cases a <;> simp [Conv.bytesToString, loadCells]
    all_goals rfl
  · obtain ⟨g, o, rfl⟩ := hr.some (by omega)
    rw [hn]
    exact run_convert_bytes_back w src dst e ⟨g, o, none⟩ c f hs he hd (fun j hj => by rw [Addr.add_mid]; exact hr.at j hj)

def wordV : List UInt8 := [118, 101, 104, 105, 99, 108, 101]
def wordQ : List UInt8 := [114, 101, 113, 117, 101, 115, 116]
def wordR : List UInt8 := [114, 111, 97, 100]
def kindOf (f : List UInt8) : Int := if f == wordV then 1 else if f == wordQ then 2 else if f == wordR then 3 else 0

end Go.Proofs.YtefkdpppcjlflaaGreatDoor.Parse
