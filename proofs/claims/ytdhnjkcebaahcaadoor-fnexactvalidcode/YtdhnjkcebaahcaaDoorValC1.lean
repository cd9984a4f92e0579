import Derived.Test.YtdhnjkcebaahcaaDoorMemC
import Derived.Test.YtdhnjkcebaahcaaDoorKit
import Derived.Deep.DrawnRows
namespace Go.Proofs.YtdhnjkcebaahcaaDoor.ValC
open Go Go.RowKit Go.Proofs.YtdhnjkcebaahcaaDoor.Mem
set_option linter.unusedVariables false
attribute [local go_sem ↓] Go.wp_at_zero Go.wp_at_succ

def inB (x lo hi : Int) : Bool := decide (lo ≤ x) && decide (x ≤ hi)
theorem ret_bool {a b : Bool} (h : a = b) : Ending.returned (.bool a) = .returned (.bool b) := by rw [h]

/-- Whether a field may hold x, by what it names. -/
def tf (R S k n u x : Int) : Bool :=
  if u = 1 then inB x 13 (R - 1) else if u = 2 then inB x 0 (R - 1) else if u = 3 then inB x (-1000000000) 1000000000 else if u = 4 then inB x 0 15
  else if u = 5 then inB x (k + 1) n else if u = 6 then inB x 1 100 else if u = 7 then inB x 0 (S - 1) else x == 0
def shTab : List (Int × Int × Int) := [(0, 0, 0), (1, 3, 0), (1, 2, 0), (1, 2, 0), (1, 2, 0), (1, 2, 2), (1, 2, 2), (1, 2, 2), (1, 2, 2), (1, 2, 2), (1, 2, 2), (1, 2, 2), (1, 2, 2), (1, 4, 0), (1, 4, 0), (2, 5, 0), (2, 5, 0), (0, 5, 0), (2, 6, 0), (7, 2, 0), (1, 7, 0)]
def sh (m : Nat) : Int × Int × Int := shTab.getD m (0, 0, 0)
theorem sh_bd : ∀ m, m < 21 → 0 ≤ (sh m).1 ∧ (sh m).1 ≤ 7 ∧ 0 ≤ (sh m).2.1 ∧ (sh m).2.1 ≤ 7 ∧ 0 ≤ (sh m).2.2 ∧ (sh m).2.2 ≤ 7 := by decide
/-- An instruction that may stand at index k of a block of n. -/
def okI (R S k n : Int) (x : Is) : Bool := inB x.p 1 20 && (tf R S k n (sh x.p.toNat).1 x.a && tf R S k n (sh x.p.toNat).2.1 x.b && tf R S k n (sh x.p.toNat).2.2 x.c)
def okBlk (R S : Int) (n : Nat) (B : Nat → Is) : Bool := !decide (16384 < n) && allB n (fun i => okI R S i n (B i))
/-- The code keeps every bound. -/
def okCo (C : Co) : Bool := inB C.R 13 1000 && inB C.S 0 100 && okBlk C.R C.S C.n1 C.B1 && okBlk C.R C.S C.n2 C.B2 && okBlk C.R C.S C.n3 C.B3

/-- The other way to say it. -/
def okS (R S k n : Int) (x : Is) : Bool :=
  if 5 ≤ x.p ∧ x.p ≤ 12 then inB x.a 13 (R - 1) && inB x.b 0 (R - 1) && inB x.c 0 (R - 1)
  else if x.c ≠ 0 then false
  else if x.p = 1 then inB x.a 13 (R - 1) && inB x.b (-1000000000) 1000000000
  else if x.p = 2 ∨ x.p = 3 ∨ x.p = 4 then inB x.a 13 (R - 1) && inB x.b 0 (R - 1)
  else if x.p = 13 ∨ x.p = 14 then inB x.a 13 (R - 1) && inB x.b 0 15
  else if x.p = 15 ∨ x.p = 16 then inB x.a 0 (R - 1) && inB x.b (k + 1) n
  else if x.p = 17 then (x.a == 0) && inB x.b (k + 1) n
  else if x.p = 18 then inB x.a 0 (R - 1) && inB x.b 1 100
  else if x.p = 19 then inB x.a 0 (S - 1) && inB x.b 0 (R - 1)
  else if x.p = 20 then inB x.a 13 (R - 1) && inB x.b 0 (S - 1)
  else false

theorem ok_eq (R S k n : Int) (x : Is) : okS R S k n x = okI R S k n x := by
  by_cases h : 1 ≤ x.p ∧ x.p ≤ 20
  · obtain ⟨h1, h2⟩ := h
    have : x.p = 1 ∨ x.p = 2 ∨ x.p = 3 ∨ x.p = 4 ∨ x.p = 5 ∨ x.p = 6 ∨ x.p = 7 ∨ x.p = 8 ∨ x.p = 9 ∨ x.p = 10 ∨ x.p = 11 ∨ x.p = 12 ∨ x.p = 13 ∨ x.p = 14 ∨ x.p = 15 ∨ x.p = 16 ∨ x.p = 17 ∨ x.p = 18 ∨ x.p = 19 ∨ x.p = 20 := by omega
    rcases this with e | e | e | e | e | e | e | e | e | e | e | e | e | e | e | e | e | e | e | e <;>
      simp [okS, okI, e, sh, shTab, tf, inB, Bool.and_assoc] <;> by_cases hc : x.c = 0 <;> simp [hc]
  · have hi : inB x.p 1 20 = false := by simp [inB]; omega
    have : ¬ (5 ≤ x.p ∧ x.p ≤ 12) := by omega
    have e1 : ¬ x.p = 1 := by omega
    have e2 : ¬ (x.p = 2 ∨ x.p = 3 ∨ x.p = 4) := by omega
    have e3 : ¬ (x.p = 13 ∨ x.p = 14) := by omega
    have e4 : ¬ (x.p = 15 ∨ x.p = 16) := by omega
    have e5 : ¬ x.p = 17 := by omega
    have e6 : ¬ x.p = 18 := by omega
    have e7 : ¬ x.p = 19 := by omega
    have e8 : ¬ x.p = 20 := by omega
    unfold okS okI
    rw [hi, if_neg this, if_neg e1, if_neg e2, if_neg e3, if_neg e4, if_neg e5, if_neg e6, if_neg e7, if_neg e8]
    simp

end Go.Proofs.YtdhnjkcebaahcaaDoor.ValC
