import Derived.Test.YtdhnjkcebaahcaaDoorKit
namespace Go.Proofs.YtdhnjkcebaahcaaDoor.Valid
open Go Go.RowKit Go.Proofs.YtdhnjkcebaahcaaDoor.Leaf
set_option linter.unusedVariables false

def inB (x lo hi : Int) : Bool := decide (lo ≤ x) && decide (x ≤ hi)
def gPlace (x y o c h : Int) : Bool := inB x (-10000) 10000 && inB y (-10000) 10000 && inB o 0 c && decide (c ≤ 1000000) && inB h 0 1000000
def gVeh (a b x y o c h : Int) : Bool := inB a 0 1000000 && inB b 0 65535 && gPlace x y o c h
def gReq (a b x y o c h x' y' o' c' h' : Int) : Bool := inB a 0 10000 && inB b 0 65535 && gPlace x y o c h && gPlace x' y' o' c' h'
def gRoad (a b t n : Int) : Bool := inB a 0 (n - 1) && inB b 0 (n - 1) && (a != b) && inB t 0 100000
theorem ret_bool {a b : Bool} (h : a = b) : Ending.returned (.bool a) = .returned (.bool b) := by rw [h]

theorem inS (x lo hi : Int) (w : World) : Calls Tryd.prog 47 #[.int .i64 x, .int .i64 lo, .int .i64 hi] w fun e w' => e = .returned (.bool (inB x lo hi)) ∧ w' = w := by
  by_cases h1 : lo ≤ x
  · go_enter Tryd.func47, Tryd.ntmps47
    go_wp2
    go_ret
    exact ⟨ret_bool (by simp [inB, h1]), rfl⟩
  · have hd : decide (lo ≤ x) = false := by simpa using h1
    go_enter Tryd.func47, Tryd.ntmps47
    go_wp2
    go_ret
    exact ⟨ret_bool (by simp [inB]; omega), rfl⟩

theorem inI (x lo hi : Int) (w : World) : Calls Tryd.prog 50 #[.int .i64 x, .int .i64 lo, .int .i64 hi] w fun e w' => e = .returned (.bool (inB x lo hi)) ∧ w' = w := by
  by_cases h1 : lo ≤ x
  · go_enter Tryd.func50, Tryd.ntmps50
    go_wp2
    go_ret
    exact ⟨ret_bool (by simp [inB, h1]), rfl⟩
  · have hd : decide (lo ≤ x) = false := by simpa using h1
    go_enter Tryd.func50, Tryd.ntmps50
    go_wp2
    go_ret
    exact ⟨ret_bool (by simp [inB]; omega), rfl⟩

set_option maxHeartbeats 800000 in
theorem placeS (x y o c h : Int) (w : World) : Calls Tryd.prog 92 #[.agg #[.int .i64 x, .int .i64 y, .int .i64 o, .int .i64 c, .int .i64 h]] w fun e w' => e = .returned (.bool (gPlace x y o c h)) ∧ Below w.heap.size w w' := by
  go_enter Tryd.func92, Tryd.ntmps92
  go_wp2_with (go_at_call 47; refine (inS _ _ _ _).mono ?_; rintro e w' ⟨rfl, rfl⟩)
  all_goals (go_ret; refine ⟨ret_bool ?_, ?_⟩)
  all_goals first | (go_grown; done) | (simp [gPlace, *]; done) | (simp [gPlace, *]; omega)

set_option maxHeartbeats 800000 in
theorem placeI (x y o c h : Int) (w : World) : Calls Tryd.prog 95 #[.agg #[.int .i64 x, .int .i64 y, .int .i64 o, .int .i64 c, .int .i64 h]] w fun e w' => e = .returned (.bool (gPlace x y o c h)) ∧ Below w.heap.size w w' := by
  go_enter Tryd.func95, Tryd.ntmps95
  go_wp2_with (go_at_call 50; refine (inI _ _ _ _).mono ?_; rintro e w' ⟨rfl, rfl⟩)
  all_goals (go_ret; refine ⟨ret_bool ?_, ?_⟩)
  all_goals first | (go_grown; done) | (simp [gPlace, *]; done) | (simp [gPlace, *]; omega)

set_option maxHeartbeats 800000 in
theorem vehS (a b x y o c h : Int) (w : World) : Calls Tryd.prog 62 #[.agg #[.int .i64 a, .int .i64 b, .int .i64 x, .int .i64 y, .int .i64 o, .int .i64 c, .int .i64 h]] w fun e w' => e = .returned (.bool (gVeh a b x y o c h)) ∧ Below w.heap.size w w' := by
  go_enter Tryd.func62, Tryd.ntmps62
  go_wp2_with (first | (go_at_call 47; refine (inS _ _ _ _).mono ?_; rintro e w' ⟨rfl, rfl⟩) | (go_at_call 92; refine (placeS _ _ _ _ _ _).mono ?_; rintro e w1 ⟨rfl, hb⟩))
  all_goals (go_ret; refine ⟨ret_bool ?_, ?_⟩)
  all_goals first | (go_grown; done) | (simp [gVeh, *]; done) | (exact ((Below.refl _ _).alloc (Nat.le_refl _) _).trans (hb.mono (by simp)))

set_option maxHeartbeats 800000 in
theorem vehI (a b x y o c h : Int) (w : World) : Calls Tryd.prog 74 #[.agg #[.int .i64 a, .int .i64 b, .int .i64 x, .int .i64 y, .int .i64 o, .int .i64 c, .int .i64 h]] w fun e w' => e = .returned (.bool (gVeh a b x y o c h)) ∧ Below w.heap.size w w' := by
  go_enter Tryd.func74, Tryd.ntmps74
  go_wp2_with (first | (go_at_call 50; refine (inI _ _ _ _).mono ?_; rintro e w' ⟨rfl, rfl⟩) | (go_at_call 95; refine (placeI _ _ _ _ _ _).mono ?_; rintro e w1 ⟨rfl, hb⟩))
  all_goals (go_ret; refine ⟨ret_bool ?_, ?_⟩)
  all_goals first | (go_grown; done) | (simp [gVeh, *]; done) | (exact ((Below.refl _ _).alloc (Nat.le_refl _) _).trans (hb.mono (by simp)))

set_option maxHeartbeats 1600000 in
theorem reqS (a b x y o c h x' y' o' c' h' : Int) (w : World) : Calls Tryd.prog 63 #[.agg #[.int .i64 a, .int .i64 b, .int .i64 x, .int .i64 y, .int .i64 o, .int .i64 c, .int .i64 h, .int .i64 x', .int .i64 y', .int .i64 o', .int .i64 c', .int .i64 h']] w fun e w' => e = .returned (.bool (gReq a b x y o c h x' y' o' c' h')) ∧ Below w.heap.size w w' := by
  go_enter Tryd.func63, Tryd.ntmps63
  go_wp2_with (first | (go_at_call 47; refine (inS _ _ _ _).mono ?_; rintro e w' ⟨rfl, rfl⟩) | (go_at_call 92; refine (placeS _ _ _ _ _ _).mono ?_; rintro e w1 ⟨rfl, hb⟩; have hk := below_then (w := w) (by first | assumption | (go_grown; done)) hb; have hq := bcell hb; obtain ⟨hc, hf⟩ := hq; clear hb; try simp only [World.size_alloc] at hc hf))
  all_goals (go_ret; refine ⟨ret_bool ?_, ?_⟩)
  all_goals first | assumption | (go_grown; done) | (simp [gReq, *]; done)

set_option maxHeartbeats 1600000 in
theorem reqI (a b x y o c h x' y' o' c' h' : Int) (w : World) : Calls Tryd.prog 75 #[.agg #[.int .i64 a, .int .i64 b, .int .i64 x, .int .i64 y, .int .i64 o, .int .i64 c, .int .i64 h, .int .i64 x', .int .i64 y', .int .i64 o', .int .i64 c', .int .i64 h']] w fun e w' => e = .returned (.bool (gReq a b x y o c h x' y' o' c' h')) ∧ Below w.heap.size w w' := by
  go_enter Tryd.func75, Tryd.ntmps75
  go_wp2_with (first | (go_at_call 50; refine (inI _ _ _ _).mono ?_; rintro e w' ⟨rfl, rfl⟩) | (go_at_call 95; refine (placeI _ _ _ _ _ _).mono ?_; rintro e w1 ⟨rfl, hb⟩; have hk := below_then (w := w) (by first | assumption | (go_grown; done)) hb; have hq := bcell hb; obtain ⟨hc, hf⟩ := hq; clear hb; try simp only [World.size_alloc] at hc hf))
  all_goals (go_ret; refine ⟨ret_bool ?_, ?_⟩)
  all_goals first | assumption | (go_grown; done) | (simp [gReq, *]; done)

set_option maxHeartbeats 1600000 in
theorem roadS (a b t n : Int) (w : World) (hn0 : 0 ≤ n) (hn1 : n ≤ 4000000000) : Calls Tryd.prog 64 #[.agg #[.int .i64 a, .int .i64 b, .int .i64 t], .int .i64 n] w fun e w' => e = .returned (.bool (gRoad a b t n)) ∧ Below w.heap.size w w' := by
  go_enter Tryd.func64, Tryd.ntmps64
  go_wp2_with (go_at_call 47; refine (inS _ _ _ _).mono ?_; rintro e w' ⟨rfl, rfl⟩)
  all_goals (go_ret; refine ⟨ret_bool ?_, ?_⟩)
  all_goals first | (go_grown; done) | (simp [gRoad, *]; done) | trace_state

set_option maxHeartbeats 1600000 in
theorem roadI (a b t n : Int) (w : World) (hn0 : 0 ≤ n) (hn1 : n ≤ 4000000000) : Calls Tryd.prog 96 #[.agg #[.int .i64 a, .int .i64 b, .int .i64 t], .int .i64 n] w fun e w' => e = .returned (.bool (gRoad a b t n)) ∧ Below w.heap.size w w' := by
  go_enter Tryd.func96, Tryd.ntmps96
  go_wp2_with (go_at_call 50; refine (inI _ _ _ _).mono ?_; rintro e w' ⟨rfl, rfl⟩)
  all_goals (go_ret; refine ⟨ret_bool ?_, ?_⟩)
  all_goals first | (go_grown; done) | (simp [gRoad, *]; done) | trace_state

end Go.Proofs.YtdhnjkcebaahcaaDoor.Valid
