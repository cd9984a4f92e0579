import Derived.Test.YtfoigigbggickaaDoorPq03
import Derived.Deep.DrawnRows
import Derived.Lib.BytesEntry
import Derived.WalkSmall
import Derived.Laws.IdiomStrings
import Derived.Lib.BufferWrite
import Derived.Test.YtfoigigbggickaaDoorProg
import Derived.WalkKit
import Derived.WalkSpells
import Derived.WalkLawsBesides
import Derived.Handy
import Derived.Deep.QuietTactic
import Derived.BigQuiet
import Derived.Deep.RegionHeld3
namespace Go.Proofs.YtfoigigbggickaaDoor.Parse
open Go Go.RowKit Go.Proofs.YtfoigigbggickaaDoor.Mem
set_option linter.unusedVariables false
set_option linter.unusedSimpArgs false
attribute [local go_sem ↓] Go.wp_at_zero Go.wp_at_succ

theorem digitI (q : Nat) (w : World) : Calls Tryd.prog 65 #[.int .u8 (q : Int)] w fun e w' => e = .returned (.bool (decide (48 ≤ q) && decide (q ≤ 57))) ∧ w' = w := by
  by_cases h1 : 48 ≤ q
  · have g1 : (48 : Int) ≤ (q : Int) := by omega
    by_cases h2 : q ≤ 57
    · have g2 : (q : Int) ≤ 57 := by omega
      go_enter Tryd.func65, Tryd.ntmps65
      go_wp2
      go_ret
      exact ⟨by simp [h1, h2], rfl⟩
    · have g2 : decide ((q : Int) ≤ 57) = false := by simp; omega
      go_enter Tryd.func65, Tryd.ntmps65
      go_wp2
      go_ret
      exact ⟨by simp [h1, h2], rfl⟩
  · have g1 : decide ((48 : Int) ≤ (q : Int)) = false := by simp; omega
    go_enter Tryd.func65, Tryd.ntmps65
    go_wp2
    go_ret
    exact ⟨by simp [h1], rfl⟩

def plainR (d : List UInt8) : Value := .tuple #[.int .i64 (if plain d then dec d else 0), .bool (plain d)]
theorem plainR_bad {d : List UInt8} (h : plain d = false) : plainR d = .tuple #[.int .i64 0, .bool false] := by unfold plainR; rw [h]; rfl
theorem plain_bad {d : List UInt8} {k : Nat} (hk : k < d.length) (h : digit d[k] = false) : plain d = false := by
  have : d.all digit = false := by
    rw [List.all_eq_false]
    exact ⟨d[k], List.getElem_mem hk, by rw [h]; simp⟩
  simp [plain, this]
theorem plain_all {d : List UInt8} {k : Nat} (hk : k < d.length) (h : (d.take k).all digit = true) (h' : digit d[k] = true) : (d.take (k + 1)).all digit = true := by
  rw [List.take_succ_eq_append_getElem hk, List.all_append, h]
  simp [h']
theorem dec_take {d : List UInt8} {k : Nat} (hk : k < d.length) : dec (d.take (k + 1)) = 10 * dec (d.take k) + d[k].toNat - 48 := by
  rw [List.take_succ_eq_append_getElem hk, dec_snoc]
theorem dec_small {d : List UInt8} {k : Nat} (hk : k ≤ 9) (h : (d.take k).all digit = true) : 0 ≤ dec (d.take k) ∧ dec (d.take k) ≤ 1000000000 := by
  have hb := dec_bound _ h
  have hl : (d.take k).length ≤ 9 := by rw [List.length_take]; omega
  generalize (d.take k).length = m at *
  refine ⟨hb.1, ?_⟩
  have : (10 : Int) ^ m ≤ 1000000000 := by
    match m, hl with
    | 0, _ | 1, _ | 2, _ | 3, _ | 4, _ | 5, _ | 6, _ | 7, _ | 8, _ | 9, _ => decide
  omega

set_option maxHeartbeats 1600000 in
set_option maxRecDepth 100000 in
theorem plainI (a : Option Addr) (d : List UInt8) (n c : Nat) (w : World) (hn : n = d.length) (hr : Rd w a d) :
    Calls Tryd.prog 75 #[.slice a n c] w fun e w' => e = .returned (plainR d) ∧ w' = w := by
  by_cases h0 : n = 0
  · have HV : Hid (plainR d = .tuple #[.int .i64 0, .bool false]) := plainR_bad (by simp [plain]; omega)
    have n1 : ((n : Int) == 0) = true := by simp; omega
    clear h0 hn hr
    go_enter Tryd.func75, Tryd.ntmps75
    go_wp2
    go_ret2
    (rw [HV.out]; exact ⟨rfl, rfl⟩)
  · obtain ⟨g, o, rfl⟩ := hr.some (by omega)
    have n1 : ((n : Int) == 0) = false := by simp; omega
    by_cases h9 : 9 < n
    · have HV : Hid (plainR d = .tuple #[.int .i64 0, .bool false]) := plainR_bad (by simp [plain]; intros; omega)
      have n2 : (9 : Int) < (n : Int) := by omega
      clear h0 hn hr
      go_enter Tryd.func75, Tryd.ntmps75
      go_wp2
      go_ret2
      (rw [HV.out]; exact ⟨rfl, rfl⟩)
    · have n2 : decide ((9 : Int) < (n : Int)) = false := by simp; omega
      have hR := Hid.mk hr
      have hN := Hid.mk hn
      obtain ⟨b, x0, hb⟩ : ∃ b : Nat, w.cell? ⟨g, o, none⟩ = some (.int .u8 (b : Int)) ∧ Hid (d.head?.map (·.toNat) = some b) := by
        have x0 := hr.at 0 (by omega)
        rw [Nat.add_zero] at x0
        exact ⟨_, x0, by unfold Hid; cases d with | nil => simp at hn; omega | cons x r => rfl⟩
      clear hr hn
      by_cases h1 : 1 < n ∧ b = 48
      · have HV : Hid (plainR d = .tuple #[.int .i64 0, .bool false]) := plainR_bad (by
          have hb' := hb.out
          have hn' := hN.out
          cases d with
          | nil => simp at hb'
          | cons x r =>
            simp at hb'
            have : x = 48 := UInt8.toNat_inj.1 (by rw [hb', h1.2]; rfl)
            subst this
            have h2 : 1 < (48 :: r : List UInt8).length := by omega
            simp only [plain, List.head?_cons, beq_self_eq_true, Bool.and_true, h2, decide_true, Bool.not_true, Bool.and_false, Bool.false_and])
        have n3 : (1 : Int) < (n : Int) := by omega
        have b1 : ((b : Int) == 48) = true := by simp; omega
        clear h1 h0
        go_enter Tryd.func75, Tryd.ntmps75
        go_wp2
        go_ret2
        (rw [HV.out]; exact ⟨rfl, rfl⟩)
      · have HP : Hid (plain d = d.all digit) := by
          have hb' := hb.out
          have hn' := hN.out
          unfold Hid
          have e1 : decide (1 ≤ d.length) = true := by simp; omega
          have e2 : decide (d.length ≤ 9) = true := by simp; omega
          have e3 : (decide (1 < d.length) && (d.head? == some 48)) = false := by
            cases d with
            | nil => rfl
            | cons x r =>
              simp at hb'
              by_cases hx : x = 48
              · subst hx
                have : b = 48 := hb'.symm
                have : ¬ 1 < n := fun h => h1 ⟨h, this⟩
                have : ¬ 1 < (48 :: r : List UInt8).length := by omega
                simp only [this, decide_false, Bool.false_and]
              · simp [hx]
          unfold plain
          rw [e1, e2, e3]; rfl
        have body : Hid (∀ st : Nat, True) := fun _ => trivial
        by_cases h2 : 1 < n
        · have n3 : (1 : Int) < (n : Int) := by omega
          have b1 : ((b : Int) == 48) = false := by simp; omega
          have h1' := Hid.mk h1
          clear h1 h0 body
          go_enter Tryd.func75, Tryd.ntmps75
          go_wp2
          clear x0
          go_loopw [4, 28] (fun v i wr => wr = w ∧ ∃ k : Nat, k ≤ n ∧ i = .int .i64 k ∧ ∃ D : Int, v = .int .i64 D ∧ 0 ≤ D ∧ D ≤ 1000000000 ∧ Hid (D = dec (d.take k)) ∧ Hid ((d.take k).all digit = true)) (fun _ i _ => n - (intOf i).toNat)
          case atStart => exact ⟨rfl, 0, Nat.zero_le _, rfl, 0, rfl, Int.le_refl _, by decide, by simp [Hid, dec], by simp [Hid]⟩
          case round =>
            obtain ⟨rfl, k, hk, rfl, D, rfl, hD0, hD1, hD, hall⟩ := hrel
            by_cases hlt : k < n
            · have hkl : k < d.length := by rw [← hN.out]; exact hlt
              have y1 := hR.out.at k hkl
              obtain ⟨q, hq⟩ : ∃ q, q = d[k].toNat := ⟨_, rfl⟩
              rw [← hq] at y1
              have HQ := Hid.mk hq
              clear hq
              have k1 : (k : Int) < (n : Int) := by omega
              by_cases hg : 48 ≤ q ∧ q ≤ 57
              · have dg : digit d[k] = true := by unfold digit; rw [← HQ.out]; simp [hg.1, hg.2]
                have ha : Hid ((d.take (k + 1)).all digit = true) := plain_all hkl hall.out dg
                have hs := dec_small (k := k + 1) (by omega) ha.out
                rw [dec_take hkl, ← hD.out, ← HQ.out] at hs
                have hD' : Hid (10 * D + ((q : Int) - 48) = dec (d.take (k + 1))) := by unfold Hid; rw [dec_take hkl, ← hD.out, ← HQ.out]; omega
                have q1 : IntKind.u8.wrap ((q : Int) - 48) = (q : Int) - 48 := by rw [IntKind.wrap_u8]; omega
                have q2 : IntKind.i64.wrap ((q : Int) - 48) = (q : Int) - 48 := by rw [IntKind.wrap_i64]; omega
                have q3 : IntKind.i64.wrap (10 * D) = 10 * D := by rw [IntKind.wrap_i64]; omega
                have q4 : IntKind.i64.wrap (10 * D + ((q : Int) - 48)) = 10 * D + ((q : Int) - 48) := by rw [IntKind.wrap_i64]; omega
                have gb : (decide (48 ≤ q) && decide (q ≤ 57)) = true := by simp [hg.1, hg.2]
                go_wp2_with (go_at_call 65; refine (digitI q _).mono ?_; rintro e w1 ⟨rfl, rfl⟩; rw [gb])
                exact ⟨⟨by first | exact trivial | rfl, k + 1, by omega, by go_num, 10 * D + ((q : Int) - 48), by first | rfl | simp [q4], by omega, by omega, hD', ha⟩, by simp [intOf]; omega⟩
              · have HV : Hid (plainR d = .tuple #[.int .i64 0, .bool false]) := plainR_bad (plain_bad hkl (by unfold digit; rw [← HQ.out]; simp; omega))
                have gb : (decide (48 ≤ q) && decide (q ≤ 57)) = false := by simp; omega
                clear hg
                go_wp2_with (go_at_call 65; refine (digitI q _).mono ?_; rintro e w1 ⟨rfl, rfl⟩; rw [gb])
                go_ret2
                (rw [HV.out]; exact ⟨rfl, rfl⟩)
            · obtain rfl : k = n := by omega
              have et : d.take k = d := List.take_of_length_le (by rw [← hN.out]; omega)
              have HV : Hid (plainR d = .tuple #[.int .i64 D, .bool true]) := by
                unfold Hid plainR
                have := hall.out
                rw [et] at this
                rw [HP.out, this, hD.out, et]; rfl
              clear et
              have k1 : decide ((k : Int) < (k : Int)) = false := by simp
              go_wp2
              go_ret2
              (rw [HV.out]; exact ⟨rfl, rfl⟩)
        · have n3 : decide ((1 : Int) < (n : Int)) = false := by simp; omega
          have h1' := Hid.mk h1
          have h2' := Hid.mk h2
          clear h1 h0 body h2
          go_enter Tryd.func75, Tryd.ntmps75
          go_wp2
          clear x0
          go_loopw [4, 28] (fun v i wr => wr = w ∧ ∃ k : Nat, k ≤ n ∧ i = .int .i64 k ∧ ∃ D : Int, v = .int .i64 D ∧ 0 ≤ D ∧ D ≤ 1000000000 ∧ Hid (D = dec (d.take k)) ∧ Hid ((d.take k).all digit = true)) (fun _ i _ => n - (intOf i).toNat)
          case atStart => exact ⟨rfl, 0, Nat.zero_le _, rfl, 0, rfl, Int.le_refl _, by decide, by simp [Hid, dec], by simp [Hid]⟩
          case round =>
            obtain ⟨rfl, k, hk, rfl, D, rfl, hD0, hD1, hD, hall⟩ := hrel
            by_cases hlt : k < n
            · have hkl : k < d.length := by rw [← hN.out]; exact hlt
              have y1 := hR.out.at k hkl
              obtain ⟨q, hq⟩ : ∃ q, q = d[k].toNat := ⟨_, rfl⟩
              rw [← hq] at y1
              have HQ := Hid.mk hq
              clear hq
              have k1 : (k : Int) < (n : Int) := by omega
              by_cases hg : 48 ≤ q ∧ q ≤ 57
              · have dg : digit d[k] = true := by unfold digit; rw [← HQ.out]; simp [hg.1, hg.2]
                have ha : Hid ((d.take (k + 1)).all digit = true) := plain_all hkl hall.out dg
                have hs := dec_small (k := k + 1) (by omega) ha.out
                rw [dec_take hkl, ← hD.out, ← HQ.out] at hs
                have hD' : Hid (10 * D + ((q : Int) - 48) = dec (d.take (k + 1))) := by unfold Hid; rw [dec_take hkl, ← hD.out, ← HQ.out]; omega
                have q1 : IntKind.u8.wrap ((q : Int) - 48) = (q : Int) - 48 := by rw [IntKind.wrap_u8]; omega
                have q2 : IntKind.i64.wrap ((q : Int) - 48) = (q : Int) - 48 := by rw [IntKind.wrap_i64]; omega
                have q3 : IntKind.i64.wrap (10 * D) = 10 * D := by rw [IntKind.wrap_i64]; omega
                have q4 : IntKind.i64.wrap (10 * D + ((q : Int) - 48)) = 10 * D + ((q : Int) - 48) := by rw [IntKind.wrap_i64]; omega
                have gb : (decide (48 ≤ q) && decide (q ≤ 57)) = true := by simp [hg.1, hg.2]
                go_wp2_with (go_at_call 65; refine (digitI q _).mono ?_; rintro e w1 ⟨rfl, rfl⟩; rw [gb])
                exact ⟨⟨by first | exact trivial | rfl, k + 1, by omega, by go_num, 10 * D + ((q : Int) - 48), by first | rfl | simp [q4], by omega, by omega, hD', ha⟩, by simp [intOf]; omega⟩
              · have HV : Hid (plainR d = .tuple #[.int .i64 0, .bool false]) := plainR_bad (plain_bad hkl (by unfold digit; rw [← HQ.out]; simp; omega))
                have gb : (decide (48 ≤ q) && decide (q ≤ 57)) = false := by simp; omega
                clear hg
                go_wp2_with (go_at_call 65; refine (digitI q _).mono ?_; rintro e w1 ⟨rfl, rfl⟩; rw [gb])
                go_ret2
                (rw [HV.out]; exact ⟨rfl, rfl⟩)
            · obtain rfl : k = n := by omega
              have et : d.take k = d := List.take_of_length_le (by rw [← hN.out]; omega)
              have HV : Hid (plainR d = .tuple #[.int .i64 D, .bool true]) := by
                unfold Hid plainR
                have := hall.out
                rw [et] at this
                rw [HP.out, this, hD.out, et]; rfl
              clear et
              have k1 : decide ((k : Int) < (k : Int)) = false := by simp
              go_wp2
              go_ret2
              (rw [HV.out]; exact ⟨rfl, rfl⟩)
end Go.Proofs.YtfoigigbggickaaDoor.Parse
namespace Go.Proofs.YtfoigigbggickaaDoor.Parse
open Go Go.RowKit Go.Proofs.YtfoigigbggickaaDoor.Mem
set_option linter.unusedVariables false
set_option linter.unusedSimpArgs false
attribute [local go_sem ↓] Go.wp_at_zero Go.wp_at_succ

/-- The part ahead of the first sep, and the part behind it. -/
def hd (sep : UInt8) (bs : List UInt8) : List UInt8 := bs.takeWhile (fun b => b != sep)
/-- A row of bytes below block B, or of no byte. -/
def Txt (B : Nat) (w : World) (v : Value) (bs : List UInt8) : Prop :=
  ∃ p c, v = .slice p bs.length c ∧ bs.length ≤ c ∧ ((p = none ∧ c = 0) ∨ ∃ g o, p = some ⟨g, o, none⟩ ∧ ∀ j (h : j < bs.length), g < B ∧ w.cell? ⟨g, o + j, none⟩ = some (.int .u8 (bs[j].toNat : Int)))
theorem Txt.below {B : Nat} {w w' : World} {v : Value} {bs : List UInt8} (h : Txt B w v bs) (hb : Below B w w') : Txt B w' v bs := by
  obtain ⟨p, c, e, hc, h⟩ := h
  refine ⟨p, c, e, hc, ?_⟩
  rcases h with h | ⟨g, o, e1, h⟩
  · exact Or.inl h
  · refine Or.inr ⟨g, o, e1, fun j hj => ⟨(h j hj).1, ?_⟩⟩
    rw [hb.cell (p := ⟨g, o + j, none⟩) (h j hj).1]; exact (h j hj).2
theorem Txt.rd {B : Nat} {w : World} {v : Value} {bs : List UInt8} (h : Txt B w v bs) : ∃ p c, v = .slice p bs.length c ∧ bs.length ≤ c ∧ ((p = none ∧ c = 0) ∨ ∃ g o, p = some ⟨g, o, none⟩) ∧ Rd w p bs := by
  obtain ⟨p, c, e, hc, h⟩ := h
  rcases h with ⟨rfl, rfl⟩ | ⟨g, o, rfl, h⟩
  · exact ⟨none, 0, e, hc, Or.inl ⟨rfl, rfl⟩, fun j hj => by omega⟩
  · exact ⟨_, c, e, hc, Or.inr ⟨g, o, rfl⟩, fun j hj => ⟨g, o, rfl, (h j hj).2⟩⟩
theorem Txt.nil (B : Nat) (w : World) : Txt B w (.slice none 0 0) [] := ⟨none, 0, rfl, Nat.le_refl _, Or.inl ⟨rfl, rfl⟩⟩
theorem Txt.take {B : Nat} {w : World} {p : Option Addr} {c : Nat} {bs : List UInt8} {n : Nat} (h : Txt B w (.slice p n c) bs) (k : Nat) (hk : k ≤ bs.length) : Txt B w (.slice p k c) (bs.take k) := by
  obtain ⟨p', c', e, hc, h⟩ := h
  injection e with e1 e2 e3
  subst e1 e2 e3
  refine ⟨p, c, by rw [List.length_take, Nat.min_eq_left hk], by rw [List.length_take]; omega, ?_⟩
  rcases h with h | ⟨g, o, e1, h⟩
  · exact Or.inl h
  · refine Or.inr ⟨g, o, e1, fun j hj => ?_⟩
    rw [List.length_take] at hj
    rw [List.getElem_take]
    exact h j (by omega)
theorem Txt.drop {B : Nat} {w : World} {g o c : Nat} {bs : List UInt8} {n : Nat} (h : Txt B w (.slice (some ⟨g, o, none⟩) n c) bs) (k : Nat) (hk : k ≤ bs.length) : Txt B w (.slice (some ⟨g, o + k, none⟩) (n - k) (c - k)) (bs.drop k) := by
  obtain ⟨p', c', e, hc, h⟩ := h
  injection e with e1 e2 e3
  subst e1 e2 e3
  refine ⟨_, _, by rw [List.length_drop], by rw [List.length_drop]; omega, Or.inr ⟨g, o + k, rfl, fun j hj => ?_⟩⟩
  rcases h with ⟨h, -⟩ | ⟨g', o', e1, h⟩
  · cases h
  · injection e1 with e1
    injection e1 with e1 e2
    subst e1 e2
    rw [List.length_drop] at hj
    rw [List.getElem_drop, Nat.add_assoc]
    exact h (k + j) (by omega)
theorem Txt.end {B : Nat} {w : World} (g o : Nat) (c : Nat) : Txt B w (.slice (some ⟨g, o, none⟩) 0 c) [] := ⟨_, _, rfl, by simp, Or.inr ⟨g, o, rfl, fun j hj => by simp at hj⟩⟩

end Go.Proofs.YtfoigigbggickaaDoor.Parse
namespace Go.Proofs.YtfoigigbggickaaDoor.Parse
open Go Go.RowKit Go.Proofs.YtfoigigbggickaaDoor.Mem
set_option linter.unusedVariables false
set_option linter.unusedSimpArgs false

/-- 'string(b)' of bytes that can be read. -/
theorem conv_rd {P : Program} (w : World) (src dst e : TypeId) (a : Option Addr) (n c : Nat) (f : List UInt8) (hn : n = f.length) (hr : Rd w a f) (hs : P.underlying src = some (.slice e)) (he : P.underlying e = some (.int .u8)) (hd : P.underlying dst = some .string) :
    (convert src dst (.slice a n c)).run P w = .ok (.string ⟨f.toArray⟩) w := by
  by_cases h0 : n = 0
  · have : f = [] := List.eq_nil_of_length_eq_zero (by omega)
    subst this
    subst h0
    rw [run_convert_bytes_string w src dst e _ 0 c hs he hd]
    cases a <;> simp [Conv.bytesToString, loadCells]
    all_goals rfl
  · obtain ⟨g, o, rfl⟩ := hr.some (by omega)
    rw [hn]
    exact run_convert_bytes_back w src dst e ⟨g, o, none⟩ c f hs he hd (fun j hj => by rw [Addr.add_mid]; exact hr.at j hj)

end Go.Proofs.YtfoigigbggickaaDoor.Parse
namespace Go.Proofs.YtfoigigbggickaaDoor.Parse
open Go Go.RowKit Go.Proofs.YtfoigigbggickaaDoor.Mem
set_option linter.unusedVariables false
set_option linter.unusedSimpArgs false
attribute [local go_sem ↓] Go.wp_at_zero Go.wp_at_succ

theorem Txt.drew {B : Nat} {w : World} {v : Value} {bs : List UInt8} (h : Txt B w v bs) (q : Nat) : Txt B (w.drewN q) v bs := h.below ⟨rfl, rfl, rfl, Nat.le_refl _, fun _ _ => rfl⟩

/-- Does the field open with the sign, and what stands behind it? -/
def signed (f : List UInt8) : Bool := decide (f.head? = some 45)
end Go.Proofs.YtfoigigbggickaaDoor.Parse
namespace Go.Proofs.YtfoigigbggickaaDoor.Parse
open Go Go.RowKit Go.Proofs.YtfoigigbggickaaDoor.Mem
set_option linter.unusedVariables false
set_option linter.unusedSimpArgs false
attribute [local go_sem ↓] Go.wp_at_zero Go.wp_at_succ

/-- One block at most turns. -/
theorem gb_then {a b c : World} {r : Option Nat} (h : a.grownBy b r) (k : b.grownBy c r) : a.grownBy c r :=
  ⟨k.os.trans h.os, k.tape.trans h.tape, k.output.trans h.output, Nat.le_trans h.size k.size, fun i hi hr => (k.block i (by have := h.size; omega) hr).trans (h.block i hi hr)⟩
theorem gb_below {a b : World} {r : Option Nat} (h : Below a.heap.size a b) : a.grownBy b r := ⟨h.os, h.tape, h.output, h.size, fun i hi _ => h.block i hi⟩
theorem gb_set (w : World) (g i : Nat) (v : Value) : w.grownBy (w.setCell ⟨g, i, none⟩ v) (some g) := Lib.grownBy_setCell w g i v

theorem below_of_grown {B g : Nat} {w w' : World} (h : w.grownBy w' (some g)) (hB : B ≤ g) (hs : B ≤ w.heap.size) : Below B w w' :=
  ⟨h.os, h.tape, h.output, h.size, fun k hk => h.block k (by omega) (by simp; omega)⟩
theorem Txt.set {B g : Nat} {w : World} {v : Value} {bs : List UInt8} (h : Txt B w v bs) (hB : B ≤ g) (i : Nat) (u : Value) : Txt B (w.setCell ⟨g, i, none⟩ u) v bs := h.below ((Below.refl _ _).setCell (p := ⟨g, i, none⟩) hB u)
theorem Txt.shape {B : Nat} {w : World} {v : Value} {bs : List UInt8} (h : Txt B w v bs) : ∃ p n c, v = .slice p n c := by
  obtain ⟨p, c, e, -⟩ := h
  exact ⟨p, _, c, e⟩
end Go.Proofs.YtfoigigbggickaaDoor.Parse
namespace Go.Proofs.YtfoigigbggickaaDoor.Leaf
open Go Go.RowKit
set_option linter.unusedVariables false

theorem below_then {w W w1 : World} (h : Below w.heap.size w W) (hb : Below W.heap.size W w1) : Below w.heap.size w w1 := h.trans (hb.mono h.size)
end Go.Proofs.YtfoigigbggickaaDoor.Leaf
