import Derived.Test.YtgooegcmgejfpaaGreatDoorFn35
namespace Go.Proofs.YtgooegcmgejfpaaGreatDoor.Mac
open Go Go.RowKit Go.Proofs.YtgooegcmgejfpaaGreatDoor.Mem
set_option linter.unusedVariables false

/-- The specification runs a block. -/
theorem execS (E : En) (B : Nat → Is) (n : Nat) (bl : Option Addr) (cb : Nat) (R S : Int) (nr ns : Nat) (hok : ∀ i, i < n → OkI R S i n (B i)) : ∀ f, Rec E B n bl cb R S nr ns f := by
  intro f
  induction f with
  | zero =>
    intro k r s ar al cr cs w hf hM
    exact exEnd E B n bl cb nr ns 0 k r s ar al cr cs w hM.hr hM.hs (by omega) hM.hn
  | succ f ih =>
    intro k r s ar al cr cs w hf hM
    by_cases hk : k < n
    · have h := hok k hk
      obtain ⟨p, a, b, c, hB⟩ : ∃ p a b c, B k = ⟨p, a, b, c⟩ := ⟨_, _, _, _, rfl⟩
      rw [hB] at h
      have p0 : 1 ≤ p := h.p0
      have p1 : p ≤ 20 := h.p1
      by_cases e17 : p = 17
      · exact ex17 E B n bl cb R S nr ns f ih k r s ar al cr cs w hf hM hk p a b c hB h e17
      by_cases e15 : p = 15
      · exact ex15 E B n bl cb R S nr ns f ih k r s ar al cr cs w hf hM hk p a b c hB h e15
      by_cases e16 : p = 16
      · exact ex16 E B n bl cb R S nr ns f ih k r s ar al cr cs w hf hM hk p a b c hB h e16
      by_cases e18 : p = 18
      · exact ex18 E B n bl cb R S nr ns f ih k r s ar al cr cs w hf hM hk p a b c hB h e18
      by_cases e19 : p = 19
      · exact ex19 E B n bl cb R S nr ns f ih k r s ar al cr cs w hf hM hk p a b c hB h e19
      exact exSet E B n bl cb R S nr ns f ih k r s ar al cr cs w hf hM hk p a b c hB h (by omega)
    · exact exEnd E B n bl cb nr ns (f + 1) k r s ar al cr cs w hM.hr hM.hs (by omega) hM.hn
/-- What a block of a valid code may hold. -/
theorem blk_ok {R S : Int} {n : Nat} {B : Nat → Is} (h : ValC.okBlk R S n B = true) : n ≤ 16384 ∧ ∀ i, i < n → OkI R S i n (B i) := by
  simp only [ValC.okBlk, Bool.and_eq_true, Bool.not_eq_true', decide_eq_false_iff_not] at h
  refine ⟨by omega, fun i hi => ok_ins ?_⟩
  cases hf : ValC.okI R S i n (B i) with
  | true => rfl
  | false => have := allB_false (f := fun i => ValC.okI R S i n (B i)) hi hf; rw [this] at h; cases h.2
end Go.Proofs.YtgooegcmgejfpaaGreatDoor.Mac
