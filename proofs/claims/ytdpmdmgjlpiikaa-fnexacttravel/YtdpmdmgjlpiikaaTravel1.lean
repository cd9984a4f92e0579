import Derived.Test.YtdpmdmgjlpiikaaValid3
import Derived.Deep.DrawnRows
import Derived.Lib.QuietBelow
namespace Go.Proofs.Ytdpmdmgjlpiikaa.Travel
open Go Go.RowKit Go.Sort Go.Proofs.Ytdpmdmgjlpiikaa.Mem Go.Proofs.Ytdpmdmgjlpiikaa.Valid
set_option linter.unusedVariables false
attribute [local go_sem ↓] Go.wp_at_zero Go.wp_at_succ

def ab (x : Int) : Int := if x < 0 then -x else x
theorem ab_bd (x : Int) (h : -20000 ≤ x) (h' : x ≤ 20000) : 0 ≤ ab x ∧ ab x ≤ 20000 := by unfold ab; split <;> omega
theorem ab_max (x y : Int) : max (x - y) (y - x) = ab (x - y) := by unfold ab; split <;> omega

theorem absS (x : Int) (w : World) (h : -20000 ≤ x) (h' : x ≤ 20000) : Calls Try.prog 62 #[.int .i64 x] w fun e w' => e = .returned (.int .i64 (ab x)) ∧ w' = w := by
  unfold ab
  by_cases h0 : x < 0
  · rw [if_pos h0]
    go_enter Try.func62, Try.ntmps62
    go_wp2
    go_ret
    exact ⟨rfl, rfl⟩
  · rw [if_neg h0]
    go_enter Try.func62, Try.ntmps62
    go_wp2
    go_ret
    exact ⟨rfl, rfl⟩

theorem dist (x y : Int) (w : World) (h : -10000 ≤ x) (h' : x ≤ 10000) (k : -10000 ≤ y) (k' : y ≤ 10000) : Calls Try.prog 65 #[.int .i64 x, .int .i64 y] w fun e w' => e = .returned (.int .i64 (ab (x - y))) ∧ w' = w := by
  go_enter Try.func65, Try.ntmps65
  go_wp2
  all_goals (go_ret; exact ⟨congrArg (fun z => Ending.returned (.int .i64 z)) (by unfold ab; split <;> omega), rfl⟩)

structure Pl where
  (x y o c h : Int)
def Veh.pl (v : Veh) : Pl := ⟨v.x, v.y, v.o, v.c, v.h⟩
def Req.from (q : Req) : Pl := ⟨q.x, q.y, q.o, q.c, q.h⟩
def Req.to (q : Req) : Pl := ⟨q.x', q.y', q.o', q.c', q.h'⟩
/-- The place of a node: of a home, of a pickup, of a delivery. -/
def plOf (I : In) (n : Int) : Pl := if n < I.nV then Veh.pl (I.V n.toNat) else if (n - I.nV) % 2 = 0 then Req.from (I.Q ((n - I.nV) / 2).toNat) else Req.to (I.Q ((n - I.nV) / 2).toNat)

set_option maxHeartbeats 1600000 in
theorem placeOfS (a1 a2 a3 : Option Addr) (c1 c2 c3 : Nat) (I : In) (n : Int) (w : World) (h : InAt w a1 a2 a3 I) (h1 : I.nV ≤ 1048576) (h2 : I.nQ ≤ 1048576) (n0 : 0 ≤ n) (n1 : n ≤ nodes I - 1) :
    Calls Try.prog 61 #[.agg #[.slice a1 I.nV c1, .slice a2 I.nQ c2, .slice a3 I.nR c3], .int .i64 n] w fun e w' => e = .returned (.agg #[.int .i64 (plOf I n).x, .int .i64 (plOf I n).y, .int .i64 (plOf I n).o, .int .i64 (plOf I n).c, .int .i64 (plOf I n).h]) ∧ Below w.heap.size w w' := by
  unfold nodes at n1
  by_cases hv : n < I.nV
  · rw [show plOf I n = Veh.pl (I.V n.toNat) from by unfold plOf; rw [if_pos hv]]
    rcases h.v with hs | ⟨b, off, rfl, hs⟩
    · omega
    obtain ⟨m, rfl⟩ := Int.eq_ofNat_of_zero_le n0
    simp only [Int.toNat_natCast]
    obtain ⟨-, -, e2, e3, e4, e5, e6⟩ := Veh.at (hs m (by omega))
    have b0 := lt_of_cell e2
    have b1 : b < w.heap.size + 1 := by omega
    have f1 : w.cell? ⟨b, off + m * 7 + 2 + 1, none⟩ = _ := e3
    have f2 : w.cell? ⟨b, off + m * 7 + 2 + 2, none⟩ = _ := e4
    have f3 : w.cell? ⟨b, off + m * 7 + 2 + 3, none⟩ = _ := e5
    have f4 : w.cell? ⟨b, off + m * 7 + 2 + 4, none⟩ = _ := e6
    clear hs h n1 e3 e4 e5 e6
    go_enter Try.func61, Try.ntmps61
    go_wp2
    go_returns
    exact ⟨rfl, by go_grown⟩
  · rcases h.q with hs | ⟨b, off, rfl, hs⟩
    · omega
    obtain ⟨m, hm⟩ := Int.eq_ofNat_of_zero_le (show 0 ≤ (n - I.nV) / 2 by omega)
    have hmq : m < I.nQ := by omega
    have hd0 : (0 : Int) ≤ (m : Int) := by omega
    have hd1 : (m : Int) < (I.nQ : Int) := by omega
    obtain ⟨e0, e1, e2, e3, e4, e5, e6, e7, e8, e9, e10, e11⟩ := Req.at (hs m hmq)
    have b0 := lt_of_cell e0
    have b1 : b < w.heap.size + 1 := by omega
    have hge : (I.nV : Int) ≤ n := by omega
    by_cases hr : (n - I.nV) % 2 = 0
    · rw [show plOf I n = Req.from (I.Q m) from by unfold plOf; rw [if_neg hv, if_pos hr, hm]; rfl]
      have hr' : ((n - I.nV) % 2 == 0) = true := by simpa using hr
      clear hs h hr
      go_enter Try.func61, Try.ntmps61
      go_wp2
      go_returns
      exact ⟨rfl, by go_grown⟩
    · rw [show plOf I n = Req.to (I.Q m) from by unfold plOf; rw [if_neg hv, if_neg hr, hm]; rfl]
      have hr' : ((n - I.nV) % 2 == 0) = false := by simpa using hr
      clear hs h hr
      go_enter Try.func61, Try.ntmps61
      go_wp2
      go_returns
      exact ⟨rfl, by go_grown⟩

set_option maxHeartbeats 1600000 in
theorem placeOfI (a1 a2 a3 : Option Addr) (c1 c2 c3 : Nat) (I : In) (n : Int) (w : World) (h : InAt w a1 a2 a3 I) (h1 : I.nV ≤ 1048576) (h2 : I.nQ ≤ 1048576) (n0 : 0 ≤ n) (n1 : n ≤ nodes I - 1) :
    Calls Try.prog 64 #[.agg #[.slice a1 I.nV c1, .slice a2 I.nQ c2, .slice a3 I.nR c3], .int .i64 n] w fun e w' => e = .returned (.agg #[.int .i64 (plOf I n).x, .int .i64 (plOf I n).y, .int .i64 (plOf I n).o, .int .i64 (plOf I n).c, .int .i64 (plOf I n).h]) ∧ Below w.heap.size w w' := by
  unfold nodes at n1
  by_cases hv : n < I.nV
  · rw [show plOf I n = Veh.pl (I.V n.toNat) from by unfold plOf; rw [if_pos hv]]
    rcases h.v with hs | ⟨b, off, rfl, hs⟩
    · omega
    obtain ⟨m, rfl⟩ := Int.eq_ofNat_of_zero_le n0
    simp only [Int.toNat_natCast]
    obtain ⟨-, -, e2, e3, e4, e5, e6⟩ := Veh.at (hs m (by omega))
    have b0 := lt_of_cell e2
    have b1 : b < w.heap.size + 1 := by omega
    have f1 : w.cell? ⟨b, off + m * 7 + 2 + 1, none⟩ = _ := e3
    have f2 : w.cell? ⟨b, off + m * 7 + 2 + 2, none⟩ = _ := e4
    have f3 : w.cell? ⟨b, off + m * 7 + 2 + 3, none⟩ = _ := e5
    have f4 : w.cell? ⟨b, off + m * 7 + 2 + 4, none⟩ = _ := e6
    clear hs h n1 e3 e4 e5 e6
    go_enter Try.func64, Try.ntmps64
    go_wp2
    go_returns
    exact ⟨rfl, by go_grown⟩
  · rcases h.q with hs | ⟨b, off, rfl, hs⟩
    · omega
    obtain ⟨m, hm⟩ := Int.eq_ofNat_of_zero_le (show 0 ≤ (n - I.nV) / 2 by omega)
    have hmq : m < I.nQ := by omega
    have hd0 : (0 : Int) ≤ (m : Int) := by omega
    have hd1 : (m : Int) < (I.nQ : Int) := by omega
    obtain ⟨e0, e1, e2, e3, e4, e5, e6, e7, e8, e9, e10, e11⟩ := Req.at (hs m hmq)
    have b0 := lt_of_cell e0
    have b1 : b < w.heap.size + 1 := by omega
    have hge : (I.nV : Int) ≤ n := by omega
    by_cases hr : (n - I.nV) % 2 = 0
    · rw [show plOf I n = Req.from (I.Q m) from by unfold plOf; rw [if_neg hv, if_pos hr, hm]; rfl]
      have hr' : ((n - I.nV) % 2 == 0) = true := by simpa using hr
      clear hs h hr
      go_enter Try.func64, Try.ntmps64
      go_wp2
      go_returns
      exact ⟨rfl, by go_grown⟩
    · rw [show plOf I n = Req.to (I.Q m) from by unfold plOf; rw [if_neg hv, if_neg hr, hm]; rfl]
      have hr' : ((n - I.nV) % 2 == 0) = false := by simpa using hr
      clear hs h hr
      go_enter Try.func64, Try.ntmps64
      go_wp2
      go_returns
      exact ⟨rfl, by go_grown⟩
end Go.Proofs.Ytdpmdmgjlpiikaa.Travel
