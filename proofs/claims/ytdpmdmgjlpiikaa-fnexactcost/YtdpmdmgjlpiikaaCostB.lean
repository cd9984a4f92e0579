import Derived.Test.YtdpmdmgjlpiikaaRouteB
import Derived.Test.YtdpmdmgjlpiikaaLegS
import Derived.Test.YtdpmdmgjlpiikaaArith
import Derived.Deep.DrawnRows
import Derived.BigQuiet
namespace Go.Proofs.Ytdpmdmgjlpiikaa.Cost
open Go Go.RowKit Go.Proofs.Ytdpmdmgjlpiikaa.Mem Go.Proofs.Ytdpmdmgjlpiikaa.Route Go.Proofs.Ytdpmdmgjlpiikaa.Travel
open Go.Proofs.Ytdpmdmgjlpiikaa.Valid (inB ret_bool nodes validB)
open Go.Proofs.Ytdpmdmgjlpiikaa.Arith (sadd)
set_option linter.unusedVariables false
set_option linter.unusedSimpArgs false
attribute [local go_sem ↓] Go.wp_at_zero Go.wp_at_succ

/-- The node of a position, the length of the way to a position, the cost. -/
theorem ret_i {a b : Int} (h : a = b) : Ending.returned (.int .i64 a) = .returned (.int .i64 b) := by rw [h]
def nodeV (v : Int) (n : Nat) (L : Nat → Int) (i : Nat) : Int := if i = 0 ∨ n < i then v else L (i - 1)
def distV (I : In) (v : Int) (n : Nat) (L : Nat → Int) : Nat → Int
  | 0 => 0
  | i + 1 => sadd (distV I v n L i) (legV I (nodeV v n L i) (nodeV v n L (i + 1)))
def costV (I : In) (v : Int) (n : Nat) (L : Nat → Int) : Int := if routeB I v n L then distV I v n L (n + 1) else -1
theorem nodeV_in {v : Int} {n : Nat} {L : Nat → Int} {i : Nat} (h : i < n) : nodeV v n L (i + 1) = L i := by
  unfold nodeV; rw [if_neg (by omega)]; rfl
theorem nodeV_end (v : Int) (n : Nat) (L : Nat → Int) : nodeV v n L (n + 1) = v := by unfold nodeV; rw [if_pos (by omega)]
theorem inB_of {x lo hi : Int} (h : inB x lo hi = true) : lo ≤ x ∧ x ≤ hi := by simpa [inB] using h
theorem route_parts {I : In} {v : Int} {n : Nat} {L : Nat → Int} (h : routeB I v n L = true) : n ≤ 4096 ∧ validB I = true ∧ 0 ≤ v ∧ v < I.nV ∧ ∀ i, i < n → (I.nV : Int) ≤ L i ∧ L i ≤ nodes I - 1 := by
  unfold routeB tripB at h
  simp only [Bool.and_eq_true, decide_eq_true_eq] at h
  obtain ⟨⟨h1, h2, h3⟩, h4⟩ := h
  have := inB_of h2
  exact ⟨h1, h3, by omega, by omega, fun i hi => inB_of (allB_get (f := fun i => stopB I (L i)) h4 i hi)⟩
theorem nodes_ge (I : In) : (I.nV : Int) ≤ nodes I := by unfold nodes; omega
theorem nodeV_ok {I : In} {v : Int} {n : Nat} {L : Nat → Int} (h : routeB I v n L = true) (i : Nat) : 0 ≤ nodeV v n L i ∧ nodeV v n L i ≤ nodes I - 1 := by
  obtain ⟨-, -, h1, h2, h3⟩ := route_parts h
  have := nodes_ge I
  unfold nodeV
  split
  · omega
  · have := h3 (i - 1) (by omega)
    omega

set_option maxHeartbeats 1600000 in
set_option maxRecDepth 100000 in
theorem nodeS (a : Option Addr) (n c : Nat) (v m : Int) (L : Nat → Int) (i : Nat) (w : World) (hs : NumsAt w a n L) (hn : n ≤ 1048576) (hm : m = i) (hi : i ≤ n + 1) :
    Calls Try.prog 76 #[.int .i64 v, .slice a n c, .int .i64 m] w fun e w' => e = .returned (.int .i64 (nodeV v n L i)) ∧ w' = w := by
  by_cases h0 : i = 0
  · subst h0
    have hr : Hid (nodeV v n L 0 = v) := by unfold Hid nodeV; rw [if_pos (by omega)]
    have hm' : (m == 0) = true := by simpa using hm
    clear hm
    go_enter Try.func76, Try.ntmps76
    go_wp2
    go_ret
    exact ⟨ret_i hr.out.symm, rfl⟩
  have hm' : (m == 0) = false := by simp; omega
  by_cases h1 : n < i
  · have hr : Hid (nodeV v n L i = v) := by unfold Hid nodeV; rw [if_pos (by omega)]
    have hd : decide ((n : Int) < m) = true := by simp; omega
    clear hm
    go_enter Try.func76, Try.ntmps76
    go_wp2
    go_ret
    exact ⟨ret_i hr.out.symm, rfl⟩
  · have hr : Hid (nodeV v n L i = L (i - 1)) := by unfold Hid nodeV; rw [if_neg (by omega)]
    have hd : decide ((n : Int) < m) = false := by simp; omega
    obtain ⟨b, off, rfl, c0⟩ := NumsAt.at hs (i := i - 1) (by omega)
    have e0 : m - 1 = ((i - 1 : Nat) : Int) := by omega
    have k0 : (0 : Int) ≤ m - 1 := by omega
    have k1 : m - 1 < (n : Int) := by omega
    have k2 : (m - 1).toNat = i - 1 := by omega
    have E := Hid.mk e0
    have hw : IntKind.i64.wrap (m - 1) = m - 1 := by rw [IntKind.wrap_i64]; omega
    clear hm e0 hs
    go_enter Try.func76, Try.ntmps76
    go_wp2
    go_ret
    exact ⟨ret_i hr.out.symm, rfl⟩
end Go.Proofs.Ytdpmdmgjlpiikaa.Cost
