import Derived.Test.YtdhnjkcebaahcaaGreatDoorConvR
import Derived.Deep.DrawnRows
namespace Go.Proofs.YtdhnjkcebaahcaaGreatDoor.Parse
open Go Go.RowKit Go.Proofs.YtdhnjkcebaahcaaGreatDoor.Mem
set_option linter.unusedVariables false
set_option linter.unusedSimpArgs false
attribute [local go_sem ↓] Go.wp_at_zero Go.wp_at_succ

set_option maxHeartbeats 1600000 in
set_option maxRecDepth 100000 in
theorem kindS (a : Option Addr) (f : List UInt8) (n c : Nat) (w : World) (hn : n = f.length) (hr : Rd w a f) :
    Calls Tryz.prog 19 #[.slice a n c] w fun e w' => e = .returned (.int .i64 (kindOf f)) ∧ w' = w := by
  have cv := conv_rd (P := Tryz.prog) w 22 9 5 a n c f hn hr Tryz.underlying22 Tryz.underlying5 Tryz.underlying9
  clear hn hr
  cases h1 : (f == [118, 101, 104, 105, 99, 108, 101]) with
  | true =>
    have HV : Hid (kindOf f = 1) := by unfold Hid kindOf wordV; rw [if_pos h1]
    go_enter Tryz.func19, Tryz.ntmps19
    go_wp2
    go_ret
    (rw [HV.out]; exact ⟨rfl, rfl⟩)
  | false =>
    cases h2 : (f == [114, 101, 113, 117, 101, 115, 116]) with
    | true =>
      have HV : Hid (kindOf f = 2) := by unfold Hid kindOf wordV wordQ; rw [h1, h2]; rfl
      go_enter Tryz.func19, Tryz.ntmps19
      go_wp2
      go_ret
      (rw [HV.out]; exact ⟨rfl, rfl⟩)
    | false =>
      cases h3 : (f == [114, 111, 97, 100]) with
      | true =>
        have HV : Hid (kindOf f = 3) := by unfold Hid kindOf wordV wordQ wordR; rw [h1, h2, h3]; rfl
        go_enter Tryz.func19, Tryz.ntmps19
        go_wp2
        go_ret
        (rw [HV.out]; exact ⟨rfl, rfl⟩)
      | false =>
        have HV : Hid (kindOf f = 0) := by unfold Hid kindOf wordV wordQ wordR; rw [h1, h2, h3]; rfl
        go_enter Tryz.func19, Tryz.ntmps19
        go_wp2
        go_ret
        (rw [HV.out]; exact ⟨rfl, rfl⟩)
end Go.Proofs.YtdhnjkcebaahcaaGreatDoor.Parse
