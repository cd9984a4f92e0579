import Derived.Test.YtdpmdmgjlpiikaaMemS
import Derived.Test.YtdpmdmgjlpiikaaKit
import Derived.Deep.DrawnRows
namespace Go.Proofs.Ytdpmdmgjlpiikaa.EqN
open Go Go.RowKit Go.Proofs.Ytdpmdmgjlpiikaa.Mem
set_option linter.unusedVariables false
attribute [local go_sem ↓] Go.wp_at_zero Go.wp_at_succ

set_option maxHeartbeats 1600000 in
set_option maxRecDepth 100000 in
theorem eqInt64S (a a' : Option Addr) (n cap cap' : Nat) (V : Nat → Int) (w : World) (hs : NumsAt w a n V) (hs' : NumsAt w a' n V) (hn : n ≤ 1048576) :
    Calls Try.prog 22 #[.slice a n cap, .slice a' n cap'] w fun e w' => e = .returned (.bool true) ∧ Below w.heap.size w w' := by
  go_enter Try.func22, Try.ntmps22
  have HS := Hid.mk hs
  have HS' := Hid.mk hs'
  clear hs hs'
  go_wp2
  go_loopw [5] (fun i wr => ∃ k : Nat, k ≤ n ∧ i = .int .i64 k ∧ Hid (Below w.heap.size w wr)) (fun i _ => n - (intOf i).toNat)
  case atStart => exact ⟨0, Nat.zero_le _, rfl, Below.refl _ _⟩
  case round =>
    obtain ⟨k, hk, rfl, hb⟩ := hrel
    by_cases hlt : k < n
    · obtain ⟨b, off, rfl, c0⟩ := NumsAt.at (HS.out.below hb.out) hlt
      obtain ⟨b', off', rfl, e0⟩ := NumsAt.at (HS'.out.below hb.out) hlt
      have k0 : (0 : Int) ≤ (k : Int) := by omega
      have k1 : (k : Int) < (n : Int) := by omega
      go_wp2_with fail
      go_quiet (fail)
      go_wp2
      exact ⟨⟨k + 1, by omega, by go_num, by first | exact hb | exact Hid.mk hb.out.drew | exact Hid.mk (below_drewN' hb.out _)⟩, by simp [intOf]; omega⟩
    · go_wp2
      go_ret
      exact ⟨rfl, hb.out⟩
end Go.Proofs.Ytdpmdmgjlpiikaa.EqN
