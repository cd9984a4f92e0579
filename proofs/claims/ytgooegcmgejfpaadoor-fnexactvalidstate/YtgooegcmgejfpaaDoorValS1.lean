import Derived.Test.YtgooegcmgejfpaaDoorValidI
import Derived.Test.YtgooegcmgejfpaaDoorValidS
import Derived.Test.YtgooegcmgejfpaaDoorValCI

import Derived.Test.YtgooegcmgejfpaaDoorMemS
namespace Go.Proofs.YtgooegcmgejfpaaDoor.StV
open Go Go.RowKit Go.Proofs.YtgooegcmgejfpaaDoor.Mem
open Go.Proofs.YtgooegcmgejfpaaDoor.Valid (inB ret_bool nodes validB inI inS nodes_bd)
set_option linter.unusedVariables false
set_option linter.unusedSimpArgs false
attribute [local go_sem ↓] Go.wp_at_zero Go.wp_at_succ

/-- A stop node. -/
def stopB (I : In) (x : Int) : Bool := inB x (I.nV : Int) (nodes I - 1)
/-- Nothing but a position and a rule. -/
def bareB (S : St) : Bool := (S.d == 0) && (S.t == 0) && (S.s == 0) && (S.l == 0) && ((S.n1 : Int) == 0) && ((S.n2 : Int) == 0) && ((S.n3 : Int) == 0)
def allIn (n : Nat) (L : Nat → Int) (lo hi : Int) : Bool := allB n (fun i => inB (L i) lo hi)
def listB (n : Nat) (L : Nat → Int) (m lo hi : Int) : Bool := ((n : Int) == m) && allIn n L lo hi
def deadB (S : St) : Bool := (S.p == -1) && (S.r == -1) && bareB S
def failB (S : St) : Bool := inB S.p 0 4097 && inB S.r 0 100 && bareB S
def standB (I : In) (v : Int) (S : St) : Bool := if S.p = 0 then S.d == v else stopB I S.d
def runB (C : Co) (I : In) (v : Int) (S : St) : Bool :=
  (S.r == -1) && inB S.p 0 4096 && standB I v S && inB S.t 0 1000000000 && inB S.s 0 1000000000 && inB S.l (-1000000000) 1000000000 &&
    listB S.n1 S.L1 (I.nQ : Int) 0 2 && listB S.n2 S.L2 C.R (-1000000000) 1000000000 && listB S.n3 S.L3 (C.S * (I.nQ : Int)) (-1000000000) 1000000000
def tripB (I : In) (v : Int) : Bool := inB v 0 ((I.nV : Int) - 1) && validB I
/-- The state keeps every bound. -/
def okSt (C : Co) (I : In) (v : Int) (S : St) : Bool := ValC.okCo C && tripB I v && (deadB S || failB S || runB C I v S)

/-- What a valid code and a valid instance bound. -/
theorem co_bd {C : Co} (h : ValC.okCo C = true) : 13 ≤ C.R ∧ C.R ≤ 1000 ∧ 0 ≤ C.S ∧ C.S ≤ 100 := by
  unfold ValC.okCo at h
  simp only [Bool.and_eq_true] at h
  obtain ⟨⟨⟨⟨h1, h2⟩, h3⟩, h4⟩, h5⟩ := h
  simp [ValC.inB] at h1 h2
  exact ⟨h1.1, h1.2, h2.1, h2.2⟩
theorem in_bd {I : In} (h : validB I = true) : I.nV ≤ 64 ∧ I.nQ ≤ 1000 ∧ I.nR ≤ 4000 := by
  unfold validB Valid.lens at h
  simp at h
  omega
theorem mul_bd {a : Int} {n : Nat} (h0 : 0 ≤ a) (h1 : a ≤ 100) (h2 : n ≤ 1000) : 0 ≤ a * (n : Int) ∧ a * (n : Int) ≤ 100000 := by
  refine ⟨Int.mul_nonneg h0 (by omega), ?_⟩
  have := Int.mul_le_mul h1 (show (n : Int) ≤ 1000 by omega) (by omega) (by omega)
  omega
theorem mul_wrap {a : Int} {n : Nat} (h0 : 0 ≤ a) (h1 : a ≤ 100) (h2 : n ≤ 1000) : IntKind.i64.wrap (a * (n : Int)) = a * (n : Int) := by
  obtain ⟨h3, h4⟩ := mul_bd h0 h1 h2
  rw [IntKind.wrap_i64]; omega
end Go.Proofs.YtgooegcmgejfpaaDoor.StV
