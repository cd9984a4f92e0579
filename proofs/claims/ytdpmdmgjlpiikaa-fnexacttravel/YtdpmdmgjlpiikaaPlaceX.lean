import Derived.Test.YtdpmdmgjlpiikaaTravelMath
import Derived.Deep.DrawnRows
import Derived.Lib.QuietBelow
namespace Go.Proofs.Ytdpmdmgjlpiikaa.Travel
open Go Go.RowKit Go.Sort Go.Proofs.Ytdpmdmgjlpiikaa.Mem Go.Proofs.Ytdpmdmgjlpiikaa.Valid
set_option linter.unusedVariables false
attribute [local go_sem ↓] Go.wp_at_zero Go.wp_at_succ

set_option maxHeartbeats 1600000 in
theorem placeHome (a1 a2 a3 : Option Addr) (c1 c2 c3 : Nat) (I : In) (n : Int) (w : World) (h : InAt w a1 a2 a3 I) (h1 : I.nV ≤ 1048576) (n0 : 0 ≤ n) (hv : n < I.nV) :
    Calls Try.prog 64 #[.agg #[.slice a1 I.nV c1, .slice a2 I.nQ c2, .slice a3 I.nR c3], .int .i64 n] w fun e w' => e = .returned (.agg #[.int .i64 (plOf I n).x, .int .i64 (plOf I n).y, .int .i64 (plOf I n).o, .int .i64 (plOf I n).c, .int .i64 (plOf I n).h]) ∧ w' = (w.alloc (.cells #[.slice a1 I.nV c1, .slice a2 I.nQ c2, .slice a3 I.nR c3] 35)).alloc (.cells #[.int .i64 (plOf I n).x, .int .i64 (plOf I n).y, .int .i64 (plOf I n).o, .int .i64 (plOf I n).c, .int .i64 (plOf I n).h] 52) := by
  rw [show plOf I n = Veh.pl (I.V n.toNat) from by unfold plOf; rw [if_pos hv]]
  rcases h.v with hs | ⟨b, off, rfl, hs⟩
  · omega
  obtain ⟨m, rfl⟩ := Int.eq_ofNat_of_zero_le n0
  simp only [Int.toNat_natCast]
  obtain ⟨-, -, e2, e3, e4, e5, e6⟩ := Veh.at (hs m (by omega))
  have b0 := lt_of_cell e2
  have b1 : b < w.heap.size + 1 := by omega
  have f1 : w.cell? ⟨b, off + m * 7 + 2 + 1, none⟩ = _ := e3
  have f2 : w.cell? ⟨b, off + m * 7 + 2 + 2, none⟩ = _ := e4
  have f3 : w.cell? ⟨b, off + m * 7 + 2 + 3, none⟩ = _ := e5
  have f4 : w.cell? ⟨b, off + m * 7 + 2 + 4, none⟩ = _ := e6
  clear hs h e3 e4 e5 e6
  go_enter Try.func64, Try.ntmps64
  go_wp2
  go_returns
  exact ⟨rfl, rfl⟩

def qo (I : In) (n : Int) : Obj := .cells (I.Q ((n - I.nV) / 2).toNat).cells.toArray 57
set_option maxHeartbeats 1600000 in
theorem placeReq (a1 a2 a3 : Option Addr) (c1 c2 c3 : Nat) (I : In) (n : Int) (w : World) (h : InAt w a1 a2 a3 I) (h1 : I.nV ≤ 1048576) (h2 : I.nQ ≤ 1048576) (hge : (I.nV : Int) ≤ n) (n1 : n ≤ nodes I - 1) :
    Calls Try.prog 64 #[.agg #[.slice a1 I.nV c1, .slice a2 I.nQ c2, .slice a3 I.nR c3], .int .i64 n] w fun e w' => e = .returned (.agg #[.int .i64 (plOf I n).x, .int .i64 (plOf I n).y, .int .i64 (plOf I n).o, .int .i64 (plOf I n).c, .int .i64 (plOf I n).h]) ∧ w' = ((w.alloc (.cells #[.slice a1 I.nV c1, .slice a2 I.nQ c2, .slice a3 I.nR c3] 35)).alloc (.cells #[.int .i64 (plOf I n).x, .int .i64 (plOf I n).y, .int .i64 (plOf I n).o, .int .i64 (plOf I n).c, .int .i64 (plOf I n).h] 52)).alloc (qo I n) := by
  unfold nodes at n1
  have hv : ¬ n < I.nV := by omega
  rcases h.q with hs | ⟨b, off, rfl, hs⟩
  · omega
  obtain ⟨m, hm⟩ := Int.eq_ofNat_of_zero_le (show 0 ≤ (n - I.nV) / 2 by omega)
  have hmq : m < I.nQ := by omega
  have hd0 : (0 : Int) ≤ (m : Int) := by omega
  have hd1 : (m : Int) < (I.nQ : Int) := by omega
  obtain ⟨e0, e1, e2, e3, e4, e5, e6, e7, e8, e9, e10, e11⟩ := Req.at (hs m hmq)
  have b0 := lt_of_cell e0
  have b1 : b < w.heap.size + 1 := by omega
  rw [show qo I n = .cells #[.int .i64 (I.Q m).a, .int .i64 (I.Q m).b, .int .i64 (I.Q m).x, .int .i64 (I.Q m).y, .int .i64 (I.Q m).o, .int .i64 (I.Q m).c, .int .i64 (I.Q m).h, .int .i64 (I.Q m).x', .int .i64 (I.Q m).y', .int .i64 (I.Q m).o', .int .i64 (I.Q m).c', .int .i64 (I.Q m).h'] 57 from by unfold qo; rw [hm]; rfl]
  by_cases hr : (n - I.nV) % 2 = 0
  · rw [show plOf I n = Req.from (I.Q m) from by unfold plOf; rw [if_neg hv, if_pos hr, hm]; rfl]
    have hr' : ((n - I.nV) % 2 == 0) = true := by simpa using hr
    clear hs h hr
    go_enter Try.func64, Try.ntmps64
    go_wp2
    go_returns
    exact ⟨rfl, rfl⟩
  · rw [show plOf I n = Req.to (I.Q m) from by unfold plOf; rw [if_neg hv, if_neg hr, hm]; rfl]
    have hr' : ((n - I.nV) % 2 == 0) = false := by simpa using hr
    clear hs h hr
    go_enter Try.func64, Try.ntmps64
    go_wp2
    go_returns
    exact ⟨rfl, rfl⟩
end Go.Proofs.Ytdpmdmgjlpiikaa.Travel
