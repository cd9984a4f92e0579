import Derived.Test.YtdhnjkcebaahcaaDoorMem
import Derived.Test.YtdhnjkcebaahcaaDoorEq1
import Derived.Deep.DrawnRows
namespace Go.Proofs.YtdhnjkcebaahcaaDoor.Eq
open Go Go.RowKit Go.Proofs.YtdhnjkcebaahcaaDoor.Mem
set_option linter.unusedVariables false
attribute [local go_sem ↓] Go.wp_at_zero Go.wp_at_succ

theorem rowRdI : (Tryd.prog.info? 74).map (·.size) = some 3 := by kernel_rfl
set_option maxHeartbeats 1600000 in
set_option maxRecDepth 100000 in
theorem eqRoadS (a a' : Option Addr) (n cap cap' : Nat) (V : Nat → Rd) (w : World) (hs : SliceAt w a n 3 (fun i => (V i).cells)) (hs' : SliceAt w a' n 3 (fun i => (V i).cells)) (hn : n ≤ 1048576) :
    Calls Tryd.prog 42 #[.slice a n cap, .slice a' n cap'] w fun e w' => e = .returned (.bool true) ∧ Below w.heap.size w w' := by
  go_enter Tryd.func42, Tryd.ntmps42
  have HS : Hid (SliceAt w a n 3 (fun i => (V i).cells)) := hs
  have HS' : Hid (SliceAt w a' n 3 (fun i => (V i).cells)) := hs'
  clear hs hs'
  go_wp2
  go_loopw [5] (fun i wr => ∃ k : Nat, k ≤ n ∧ i = .int .i64 k ∧ Hid (Below w.heap.size w wr)) (fun i _ => n - (intOf i).toNat)
  case atStart => exact ⟨0, Nat.zero_le _, rfl, Below.refl _ _⟩
  case round =>
    obtain ⟨k, hk, rfl, hb⟩ := hrel
    by_cases hlt : k < n
    · rcases HS.out with hs | ⟨b, off, rfl, hs⟩
      · omega
      rcases HS'.out with hs' | ⟨b', off', rfl, hs'⟩
      · omega
      have hr := rangeAt_below (hs k hlt) hb.out
      have hr' := rangeAt_below (hs' k hlt) hb.out
      obtain ⟨c0, c1, c2⟩ := Rd.at hr
      obtain ⟨e0, e1, e2⟩ := Rd.at hr'
      clear hs hs' hr hr'
      have k0 : (0 : Int) ≤ (k : Int) := by omega
      have k1 : (k : Int) < (n : Int) := by omega
      go_wp2_with fail
      go_region_held3 (fun w' => w'.cell? ⟨b, off + k * 3, none⟩ = some (.int .i64 (V k).a) ∧ w'.cell? ⟨b, off + k * 3 + 1, none⟩ = some (.int .i64 (V k).b) ∧ w'.cell? ⟨b, off + k * 3 + 2, none⟩ = some (.int .i64 (V k).t) ∧ w'.cell? ⟨b', off' + k * 3, none⟩ = some (.int .i64 (V k).a) ∧ w'.cell? ⟨b', off' + k * 3 + 1, none⟩ = some (.int .i64 (V k).b) ∧ w'.cell? ⟨b', off' + k * 3 + 2, none⟩ = some (.int .i64 (V k).t)) (first | go_keep | ((repeat' constructor) <;> exact cell_keep hb1 (by first | assumption | (simp [*]; done)))) ((go_at_call 81; refine (eqRoad _ _ _ _).mono ?_; rintro e w1 ⟨rfl, hb1⟩))
      have hb2 : Hid (Below w.heap.size w w1) := below_then hb.out.drew hb1
      clear hb1 hb
      go_wp2
      exact ⟨⟨k + 1, by omega, by go_num, hb2⟩, by simp [intOf]; omega⟩
    · go_wp2
      go_ret
      exact ⟨rfl, hb.out⟩

theorem rowVehI : (Tryd.prog.info? 67).map (·.size) = some 7 := by kernel_rfl
set_option maxHeartbeats 1600000 in
set_option maxRecDepth 100000 in
theorem eqVehicleS (a a' : Option Addr) (n cap cap' : Nat) (V : Nat → Veh) (w : World) (hs : SliceAt w a n 7 (fun i => (V i).cells)) (hs' : SliceAt w a' n 7 (fun i => (V i).cells)) (hn : n ≤ 1048576) :
    Calls Tryd.prog 40 #[.slice a n cap, .slice a' n cap'] w fun e w' => e = .returned (.bool true) ∧ Below w.heap.size w w' := by
  go_enter Tryd.func40, Tryd.ntmps40
  have HS : Hid (SliceAt w a n 7 (fun i => (V i).cells)) := hs
  have HS' : Hid (SliceAt w a' n 7 (fun i => (V i).cells)) := hs'
  clear hs hs'
  go_wp2
  go_loopw [5] (fun i wr => ∃ k : Nat, k ≤ n ∧ i = .int .i64 k ∧ Hid (Below w.heap.size w wr)) (fun i _ => n - (intOf i).toNat)
  case atStart => exact ⟨0, Nat.zero_le _, rfl, Below.refl _ _⟩
  case round =>
    obtain ⟨k, hk, rfl, hb⟩ := hrel
    by_cases hlt : k < n
    · rcases HS.out with hs | ⟨b, off, rfl, hs⟩
      · omega
      rcases HS'.out with hs' | ⟨b', off', rfl, hs'⟩
      · omega
      have hr := rangeAt_below (hs k hlt) hb.out
      have hr' := rangeAt_below (hs' k hlt) hb.out
      obtain ⟨c0, c1, c2, c3, c4, c5, c6⟩ := Veh.at hr
      obtain ⟨e0, e1, e2, e3, e4, e5, e6⟩ := Veh.at hr'
      clear hs hs' hr hr'
      have k0 : (0 : Int) ≤ (k : Int) := by omega
      have k1 : (k : Int) < (n : Int) := by omega
      go_wp2_with fail
      go_region_held3 (fun w' => w'.cell? ⟨b, off + k * 7, none⟩ = some (.int .i64 (V k).a) ∧ w'.cell? ⟨b, off + k * 7 + 1, none⟩ = some (.int .i64 (V k).b) ∧ w'.cell? ⟨b, off + k * 7 + 2, none⟩ = some (.int .i64 (V k).x) ∧ w'.cell? ⟨b, off + k * 7 + 3, none⟩ = some (.int .i64 (V k).y) ∧ w'.cell? ⟨b, off + k * 7 + 4, none⟩ = some (.int .i64 (V k).o) ∧ w'.cell? ⟨b, off + k * 7 + 5, none⟩ = some (.int .i64 (V k).c) ∧ w'.cell? ⟨b, off + k * 7 + 6, none⟩ = some (.int .i64 (V k).h) ∧ w'.cell? ⟨b', off' + k * 7, none⟩ = some (.int .i64 (V k).a) ∧ w'.cell? ⟨b', off' + k * 7 + 1, none⟩ = some (.int .i64 (V k).b) ∧ w'.cell? ⟨b', off' + k * 7 + 2, none⟩ = some (.int .i64 (V k).x) ∧ w'.cell? ⟨b', off' + k * 7 + 3, none⟩ = some (.int .i64 (V k).y) ∧ w'.cell? ⟨b', off' + k * 7 + 4, none⟩ = some (.int .i64 (V k).o) ∧ w'.cell? ⟨b', off' + k * 7 + 5, none⟩ = some (.int .i64 (V k).c) ∧ w'.cell? ⟨b', off' + k * 7 + 6, none⟩ = some (.int .i64 (V k).h)) (first | go_keep | ((repeat' constructor) <;> exact cell_keep hb1 (by first | assumption | (simp [*]; done)))) ((go_at_call 79; refine (eqVehicle _ _ _ _ _ _ _ _).mono ?_; rintro e w1 ⟨rfl, hb1⟩))
      have hb2 : Hid (Below w.heap.size w w1) := below_then hb.out.drew hb1
      clear hb1 hb
      go_wp2
      exact ⟨⟨k + 1, by omega, by go_num, hb2⟩, by simp [intOf]; omega⟩
    · go_wp2
      go_ret
      exact ⟨rfl, hb.out⟩

theorem rowReqI : (Tryd.prog.info? 72).map (·.size) = some 12 := by kernel_rfl
set_option maxHeartbeats 1600000 in
set_option maxRecDepth 100000 in
theorem eqRequestS (a a' : Option Addr) (n cap cap' : Nat) (V : Nat → Req) (w : World) (hs : SliceAt w a n 12 (fun i => (V i).cells)) (hs' : SliceAt w a' n 12 (fun i => (V i).cells)) (hn : n ≤ 1048576) :
    Calls Tryd.prog 41 #[.slice a n cap, .slice a' n cap'] w fun e w' => e = .returned (.bool true) ∧ Below w.heap.size w w' := by
  go_enter Tryd.func41, Tryd.ntmps41
  have HS : Hid (SliceAt w a n 12 (fun i => (V i).cells)) := hs
  have HS' : Hid (SliceAt w a' n 12 (fun i => (V i).cells)) := hs'
  clear hs hs'
  go_wp2
  go_loopw [5] (fun i wr => ∃ k : Nat, k ≤ n ∧ i = .int .i64 k ∧ Hid (Below w.heap.size w wr)) (fun i _ => n - (intOf i).toNat)
  case atStart => exact ⟨0, Nat.zero_le _, rfl, Below.refl _ _⟩
  case round =>
    obtain ⟨k, hk, rfl, hb⟩ := hrel
    by_cases hlt : k < n
    · rcases HS.out with hs | ⟨b, off, rfl, hs⟩
      · omega
      rcases HS'.out with hs' | ⟨b', off', rfl, hs'⟩
      · omega
      have hr := rangeAt_below (hs k hlt) hb.out
      have hr' := rangeAt_below (hs' k hlt) hb.out
      obtain ⟨c0, c1, c2, c3, c4, c5, c6, c7, c8, c9, c10, c11⟩ := Req.at hr
      obtain ⟨e0, e1, e2, e3, e4, e5, e6, e7, e8, e9, e10, e11⟩ := Req.at hr'
      clear hs hs' hr hr'
      have k0 : (0 : Int) ≤ (k : Int) := by omega
      have k1 : (k : Int) < (n : Int) := by omega
      go_wp2_with fail
      go_region_held3 (fun w' => w'.cell? ⟨b, off + k * 12, none⟩ = some (.int .i64 (V k).a) ∧ w'.cell? ⟨b, off + k * 12 + 1, none⟩ = some (.int .i64 (V k).b) ∧ w'.cell? ⟨b, off + k * 12 + 2, none⟩ = some (.int .i64 (V k).x) ∧ w'.cell? ⟨b, off + k * 12 + 3, none⟩ = some (.int .i64 (V k).y) ∧ w'.cell? ⟨b, off + k * 12 + 4, none⟩ = some (.int .i64 (V k).o) ∧ w'.cell? ⟨b, off + k * 12 + 5, none⟩ = some (.int .i64 (V k).c) ∧ w'.cell? ⟨b, off + k * 12 + 6, none⟩ = some (.int .i64 (V k).h) ∧ w'.cell? ⟨b, off + k * 12 + 7, none⟩ = some (.int .i64 (V k).x') ∧ w'.cell? ⟨b, off + k * 12 + 8, none⟩ = some (.int .i64 (V k).y') ∧ w'.cell? ⟨b, off + k * 12 + 9, none⟩ = some (.int .i64 (V k).o') ∧ w'.cell? ⟨b, off + k * 12 + 10, none⟩ = some (.int .i64 (V k).c') ∧ w'.cell? ⟨b, off + k * 12 + 11, none⟩ = some (.int .i64 (V k).h') ∧ w'.cell? ⟨b', off' + k * 12, none⟩ = some (.int .i64 (V k).a) ∧ w'.cell? ⟨b', off' + k * 12 + 1, none⟩ = some (.int .i64 (V k).b) ∧ w'.cell? ⟨b', off' + k * 12 + 2, none⟩ = some (.int .i64 (V k).x) ∧ w'.cell? ⟨b', off' + k * 12 + 3, none⟩ = some (.int .i64 (V k).y) ∧ w'.cell? ⟨b', off' + k * 12 + 4, none⟩ = some (.int .i64 (V k).o) ∧ w'.cell? ⟨b', off' + k * 12 + 5, none⟩ = some (.int .i64 (V k).c) ∧ w'.cell? ⟨b', off' + k * 12 + 6, none⟩ = some (.int .i64 (V k).h) ∧ w'.cell? ⟨b', off' + k * 12 + 7, none⟩ = some (.int .i64 (V k).x') ∧ w'.cell? ⟨b', off' + k * 12 + 8, none⟩ = some (.int .i64 (V k).y') ∧ w'.cell? ⟨b', off' + k * 12 + 9, none⟩ = some (.int .i64 (V k).o') ∧ w'.cell? ⟨b', off' + k * 12 + 10, none⟩ = some (.int .i64 (V k).c') ∧ w'.cell? ⟨b', off' + k * 12 + 11, none⟩ = some (.int .i64 (V k).h')) (first | go_keep | ((repeat' constructor) <;> exact cell_keep hb1 (by first | assumption | (simp [*]; done)))) ((go_at_call 80; refine (eqRequest _ _ _ _ _ _ _ _ _ _ _ _ _).mono ?_; rintro e w1 ⟨rfl, hb1⟩))
      have hb2 : Hid (Below w.heap.size w w1) := below_then hb.out.drew hb1
      clear hb1 hb
      go_wp2
      exact ⟨⟨k + 1, by omega, by go_num, hb2⟩, by simp [intOf]; omega⟩
    · go_wp2
      go_ret
      exact ⟨rfl, hb.out⟩

end Go.Proofs.YtdhnjkcebaahcaaDoor.Eq
