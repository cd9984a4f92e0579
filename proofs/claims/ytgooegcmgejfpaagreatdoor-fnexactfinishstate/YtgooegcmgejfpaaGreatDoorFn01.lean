import Derived.Test.YtgooegcmgejfpaaGreatDoorProg
import Derived.WalkKit
import Derived.WalkSpells
import Derived.WalkLawsBesides
import Derived.Handy
import Derived.Deep.QuietTactic
import Derived.BigQuiet
import Derived.Deep.RegionHeld3
namespace Go.Proofs.YtgooegcmgejfpaaGreatDoor.Leaf
open Go Go.RowKit
set_option linter.unusedVariables false

theorem bcell {W w1 : World} (hb : Below W.heap.size W w1) : (∀ b o, b < W.heap.size → w1.cell? ⟨b, o, none⟩ = W.cell? ⟨b, o, none⟩) ∧ (∀ b o, b < W.heap.size → w1.frozen? ⟨b, o, none⟩ = W.frozen? ⟨b, o, none⟩) :=
  ⟨fun b o h => hb.cell (p := ⟨b, o, none⟩) h, fun b o h => hb.frozen (p := ⟨b, o, none⟩) h⟩

theorem below_then {w W w1 : World} (h : Below w.heap.size w W) (hb : Below W.heap.size W w1) : Below w.heap.size w w1 := h.trans (hb.mono h.size)
end Go.Proofs.YtgooegcmgejfpaaGreatDoor.Leaf
namespace Go.Proofs.YtgooegcmgejfpaaGreatDoor.Valid
open Go Go.RowKit Go.Proofs.YtgooegcmgejfpaaGreatDoor.Leaf
set_option linter.unusedVariables false

def inB (x lo hi : Int) : Bool := decide (lo ≤ x) && decide (x ≤ hi)
def gPlace (x y o c h : Int) : Bool := inB x (-10000) 10000 && inB y (-10000) 10000 && inB o 0 c && decide (c ≤ 1000000) && inB h 0 1000000
def gVeh (a b x y o c h : Int) : Bool := inB a 0 1000000 && inB b 0 65535 && gPlace x y o c h
def gReq (a b x y o c h x' y' o' c' h' : Int) : Bool := inB a 0 10000 && inB b 0 65535 && gPlace x y o c h && gPlace x' y' o' c' h'
def gRoad (a b t n : Int) : Bool := inB a 0 (n - 1) && inB b 0 (n - 1) && (a != b) && inB t 0 100000
theorem ret_bool {a b : Bool} (h : a = b) : Ending.returned (.bool a) = .returned (.bool b) := by rw [h]

theorem inS (x lo hi : Int) (w : World) : Calls Tryz.prog 37 #[.int .i64 x, .int .i64 lo, .int .i64 hi] w fun e w' => e = .returned (.bool (inB x lo hi)) ∧ w' = w := by
  by_cases h1 : lo ≤ x
  · go_enter Tryz.func37, Tryz.ntmps37
    go_wp2
    go_ret
    exact ⟨ret_bool (by simp [inB, h1]), rfl⟩
  · have hd : decide (lo ≤ x) = false := by simpa using h1
    go_enter Tryz.func37, Tryz.ntmps37
    go_wp2
    go_ret
    exact ⟨ret_bool (by simp [inB]; omega), rfl⟩

theorem inI (x lo hi : Int) (w : World) : Calls Tryz.prog 102 #[.int .i64 x, .int .i64 lo, .int .i64 hi] w fun e w' => e = .returned (.bool (inB x lo hi)) ∧ w' = w := by
  by_cases h1 : lo ≤ x
  · go_enter Tryz.func102, Tryz.ntmps102
    go_wp2
    go_ret
    exact ⟨ret_bool (by simp [inB, h1]), rfl⟩
  · have hd : decide (lo ≤ x) = false := by simpa using h1
    go_enter Tryz.func102, Tryz.ntmps102
    go_wp2
    go_ret
    exact ⟨ret_bool (by simp [inB]; omega), rfl⟩

set_option maxHeartbeats 800000 in
theorem placeS (x y o c h : Int) (w : World) : Calls Tryz.prog 129 #[.agg #[.int .i64 x, .int .i64 y, .int .i64 o, .int .i64 c, .int .i64 h]] w fun e w' => e = .returned (.bool (gPlace x y o c h)) ∧ Below w.heap.size w w' := by
  go_enter Tryz.func129, Tryz.ntmps129
  go_wp2_with (go_at_call 37; refine (inS _ _ _ _).mono ?_; rintro e w' ⟨rfl, rfl⟩)
  all_goals (go_ret; refine ⟨ret_bool ?_, ?_⟩)
  all_goals first | (go_grown; done) | (simp [gPlace, *]; done) | (simp [gPlace, *]; omega)

set_option maxHeartbeats 800000 in
theorem placeI (x y o c h : Int) (w : World) : Calls Tryz.prog 173 #[.agg #[.int .i64 x, .int .i64 y, .int .i64 o, .int .i64 c, .int .i64 h]] w fun e w' => e = .returned (.bool (gPlace x y o c h)) ∧ Below w.heap.size w w' := by
  go_enter Tryz.func173, Tryz.ntmps173
  go_wp2_with (go_at_call 102; refine (inI _ _ _ _).mono ?_; rintro e w' ⟨rfl, rfl⟩)
  all_goals (go_ret; refine ⟨ret_bool ?_, ?_⟩)
  all_goals first | (go_grown; done) | (simp [gPlace, *]; done) | (simp [gPlace, *]; omega)

set_option maxHeartbeats 800000 in
theorem vehS (a b x y o c h : Int) (w : World) : Calls Tryz.prog 82 #[.agg #[.int .i64 a, .int .i64 b, .int .i64 x, .int .i64 y, .int .i64 o, .int .i64 c, .int .i64 h]] w fun e w' => e = .returned (.bool (gVeh a b x y o c h)) ∧ Below w.heap.size w w' := by
  go_enter Tryz.func82, Tryz.ntmps82
  go_wp2_with (first | (go_at_call 37; refine (inS _ _ _ _).mono ?_; rintro e w' ⟨rfl, rfl⟩) | (go_at_call 129; refine (placeS _ _ _ _ _ _).mono ?_; rintro e w1 ⟨rfl, hb⟩))
  all_goals (go_ret; refine ⟨ret_bool ?_, ?_⟩)
  all_goals first | (go_grown; done) | (simp [gVeh, *]; done) | (exact ((Below.refl _ _).alloc (Nat.le_refl _) _).trans (hb.mono (by simp)))

set_option maxHeartbeats 800000 in
theorem vehI (a b x y o c h : Int) (w : World) : Calls Tryz.prog 135 #[.agg #[.int .i64 a, .int .i64 b, .int .i64 x, .int .i64 y, .int .i64 o, .int .i64 c, .int .i64 h]] w fun e w' => e = .returned (.bool (gVeh a b x y o c h)) ∧ Below w.heap.size w w' := by
  go_enter Tryz.func135, Tryz.ntmps135
  go_wp2_with (first | (go_at_call 102; refine (inI _ _ _ _).mono ?_; rintro e w' ⟨rfl, rfl⟩) | (go_at_call 173; refine (placeI _ _ _ _ _ _).mono ?_; rintro e w1 ⟨rfl, hb⟩))
  all_goals (go_ret; refine ⟨ret_bool ?_, ?_⟩)
  all_goals first | (go_grown; done) | (simp [gVeh, *]; done) | (exact ((Below.refl _ _).alloc (Nat.le_refl _) _).trans (hb.mono (by simp)))

set_option maxHeartbeats 1600000 in
theorem reqS (a b x y o c h x' y' o' c' h' : Int) (w : World) : Calls Tryz.prog 83 #[.agg #[.int .i64 a, .int .i64 b, .int .i64 x, .int .i64 y, .int .i64 o, .int .i64 c, .int .i64 h, .int .i64 x', .int .i64 y', .int .i64 o', .int .i64 c', .int .i64 h']] w fun e w' => e = .returned (.bool (gReq a b x y o c h x' y' o' c' h')) ∧ Below w.heap.size w w' := by
  go_enter Tryz.func83, Tryz.ntmps83
  go_wp2_with (first | (go_at_call 37; refine (inS _ _ _ _).mono ?_; rintro e w' ⟨rfl, rfl⟩) | (go_at_call 129; refine (placeS _ _ _ _ _ _).mono ?_; rintro e w1 ⟨rfl, hb⟩; have hk := below_then (w := w) (by first | assumption | (go_grown; done)) hb; have hq := bcell hb; obtain ⟨hc, hf⟩ := hq; clear hb; try simp only [World.size_alloc] at hc hf))
  all_goals (go_ret; refine ⟨ret_bool ?_, ?_⟩)
  all_goals first | assumption | (go_grown; done) | (simp [gReq, *]; done)

set_option maxHeartbeats 1600000 in
theorem reqI (a b x y o c h x' y' o' c' h' : Int) (w : World) : Calls Tryz.prog 136 #[.agg #[.int .i64 a, .int .i64 b, .int .i64 x, .int .i64 y, .int .i64 o, .int .i64 c, .int .i64 h, .int .i64 x', .int .i64 y', .int .i64 o', .int .i64 c', .int .i64 h']] w fun e w' => e = .returned (.bool (gReq a b x y o c h x' y' o' c' h')) ∧ Below w.heap.size w w' := by
  go_enter Tryz.func136, Tryz.ntmps136
  go_wp2_with (first | (go_at_call 102; refine (inI _ _ _ _).mono ?_; rintro e w' ⟨rfl, rfl⟩) | (go_at_call 173; refine (placeI _ _ _ _ _ _).mono ?_; rintro e w1 ⟨rfl, hb⟩; have hk := below_then (w := w) (by first | assumption | (go_grown; done)) hb; have hq := bcell hb; obtain ⟨hc, hf⟩ := hq; clear hb; try simp only [World.size_alloc] at hc hf))
  all_goals (go_ret; refine ⟨ret_bool ?_, ?_⟩)
  all_goals first | assumption | (go_grown; done) | (simp [gReq, *]; done)

set_option maxHeartbeats 1600000 in
theorem roadS (a b t n : Int) (w : World) (hn0 : 0 ≤ n) (hn1 : n ≤ 4000000000) : Calls Tryz.prog 84 #[.agg #[.int .i64 a, .int .i64 b, .int .i64 t], .int .i64 n] w fun e w' => e = .returned (.bool (gRoad a b t n)) ∧ Below w.heap.size w w' := by
  go_enter Tryz.func84, Tryz.ntmps84
  go_wp2_with (go_at_call 37; refine (inS _ _ _ _).mono ?_; rintro e w' ⟨rfl, rfl⟩)
  all_goals (go_ret; refine ⟨ret_bool ?_, ?_⟩)
  all_goals first | (go_grown; done) | (simp [gRoad, *]; done) | trace_state

set_option maxHeartbeats 1600000 in
theorem roadI (a b t n : Int) (w : World) (hn0 : 0 ≤ n) (hn1 : n ≤ 4000000000) : Calls Tryz.prog 174 #[.agg #[.int .i64 a, .int .i64 b, .int .i64 t], .int .i64 n] w fun e w' => e = .returned (.bool (gRoad a b t n)) ∧ Below w.heap.size w w' := by
  go_enter Tryz.func174, Tryz.ntmps174
  go_wp2_with (go_at_call 102; refine (inI _ _ _ _).mono ?_; rintro e w' ⟨rfl, rfl⟩)
  all_goals (go_ret; refine ⟨ret_bool ?_, ?_⟩)
  all_goals first | (go_grown; done) | (simp [gRoad, *]; done) | trace_state

end Go.Proofs.YtgooegcmgejfpaaGreatDoor.Valid
