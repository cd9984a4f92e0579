import Derived.Test.YtefkdpppcjlflaaGreatDoorProg
import Derived.WalkKit
import Derived.WalkSpells
import Derived.WalkLawsBesides
import Derived.Handy
import Derived.Deep.QuietTactic
import Derived.BigQuiet
import Derived.Deep.RegionHeld3
import Derived.Test.YtefkdpppcjlflaaGreatDoorIt01
import Derived.Deep.DrawnRows
import Derived.Test.YtefkdpppcjlflaaGreatDoorIt02
import Derived.Test.YtefkdpppcjlflaaGreatDoorIt06
import Derived.Test.YtefkdpppcjlflaaGreatDoorIt03
namespace Go.Proofs.YtefkdpppcjlflaaGreatDoor.Leaf
open Go Go.RowKit
set_option linter.unusedVariables false

theorem bcell {W w1 : World} (hb : Below W.heap.size W w1) : (∀ b o, b < W.heap.size → w1.cell? ⟨b, o, none⟩ = W.cell? ⟨b, o, none⟩) ∧ (∀ b o, b < W.heap.size → w1.frozen? ⟨b, o, none⟩ = W.frozen? ⟨b, o, none⟩) :=
  ⟨fun b o h => hb.cell (p := ⟨b, o, none⟩) h, fun b o h => hb.frozen (p := ⟨b, o, none⟩) h⟩

theorem below_then {w W w1 : World} (h : Below w.heap.size w W) (hb : Below W.heap.size W w1) : Below w.heap.size w w1 := h.trans (hb.mono h.size)
end Go.Proofs.YtefkdpppcjlflaaGreatDoor.Leaf
namespace Go.Proofs.YtefkdpppcjlflaaGreatDoor.Valid
open Go Go.RowKit Go.Proofs.YtefkdpppcjlflaaGreatDoor.Leaf
set_option linter.unusedVariables false

def inB (x lo hi : Int) : Bool := decide (lo ≤ x) && decide (x ≤ hi)
def gPlace (x y o c h : Int) : Bool := inB x (-10000) 10000 && inB y (-10000) 10000 && inB o 0 c && decide (c ≤ 1000000) && inB h 0 1000000
def gVeh (a b x y o c h : Int) : Bool := inB a 0 1000000 && inB b 0 65535 && gPlace x y o c h
def gReq (a b x y o c h x' y' o' c' h' : Int) : Bool := inB a 0 10000 && inB b 0 65535 && gPlace x y o c h && gPlace x' y' o' c' h'
def gRoad (a b t n : Int) : Bool := inB a 0 (n - 1) && inB b 0 (n - 1) && (a != b) && inB t 0 100000
theorem ret_bool {a b : Bool} (h : a = b) : Ending.returned (.bool a) = .returned (.bool b) := by rw [h]

theorem inS (x lo hi : Int) (w : World) : Calls Tryz.prog 31 #[.int .i64 x, .int .i64 lo, .int .i64 hi] w fun e w' => e = .returned (.bool (inB x lo hi)) ∧ w' = w := by
  by_cases h1 : lo ≤ x
  · go_enter Tryz.func31, Tryz.ntmps31
    go_wp2
    go_ret
    exact ⟨ret_bool (by simp [inB, h1]), rfl⟩
  · have hd : decide (lo ≤ x) = false := by simpa using h1
    go_enter Tryz.func31, Tryz.ntmps31
    go_wp2
    go_ret
    exact ⟨ret_bool (by simp [inB]; omega), rfl⟩

theorem inI (x lo hi : Int) (w : World) : Calls Tryz.prog 46 #[.int .i64 x, .int .i64 lo, .int .i64 hi] w fun e w' => e = .returned (.bool (inB x lo hi)) ∧ w' = w := by
  by_cases h1 : lo ≤ x
  · go_enter Tryz.func46, Tryz.ntmps46
    go_wp2
    go_ret
    exact ⟨ret_bool (by simp [inB, h1]), rfl⟩
  · have hd : decide (lo ≤ x) = false := by simpa using h1
    go_enter Tryz.func46, Tryz.ntmps46
    go_wp2
    go_ret
    exact ⟨ret_bool (by simp [inB]; omega), rfl⟩

set_option maxHeartbeats 800000 in
theorem placeS (x y o c h : Int) (w : World) : Calls Tryz.prog 32 #[.agg #[.int .i64 x, .int .i64 y, .int .i64 o, .int .i64 c, .int .i64 h]] w fun e w' => e = .returned (.bool (gPlace x y o c h)) ∧ Below w.heap.size w w' := by
  go_enter Tryz.func32, Tryz.ntmps32
  go_wp2_with (go_at_call 31; refine (inS _ _ _ _).mono ?_; rintro e w' ⟨rfl, rfl⟩)
  all_goals (go_ret; refine ⟨ret_bool ?_, ?_⟩)
  all_goals first | (go_grown; done) | (simp [gPlace, *]; done) | (simp [gPlace, *]; omega)

set_option maxHeartbeats 800000 in
theorem placeI (x y o c h : Int) (w : World) : Calls Tryz.prog 47 #[.agg #[.int .i64 x, .int .i64 y, .int .i64 o, .int .i64 c, .int .i64 h]] w fun e w' => e = .returned (.bool (gPlace x y o c h)) ∧ Below w.heap.size w w' := by
  go_enter Tryz.func47, Tryz.ntmps47
  go_wp2_with (go_at_call 46; refine (inI _ _ _ _).mono ?_; rintro e w' ⟨rfl, rfl⟩)
  all_goals (go_ret; refine ⟨ret_bool ?_, ?_⟩)
  all_goals first | (go_grown; done) | (simp [gPlace, *]; done) | (simp [gPlace, *]; omega)

set_option maxHeartbeats 800000 in
theorem vehS (a b x y o c h : Int) (w : World) : Calls Tryz.prog 13 #[.agg #[.int .i64 a, .int .i64 b, .int .i64 x, .int .i64 y, .int .i64 o, .int .i64 c, .int .i64 h]] w fun e w' => e = .returned (.bool (gVeh a b x y o c h)) ∧ Below w.heap.size w w' := by
  go_enter Tryz.func13, Tryz.ntmps13
  go_wp2_with (first | (go_at_call 31; refine (inS _ _ _ _).mono ?_; rintro e w' ⟨rfl, rfl⟩) | (go_at_call 32; refine (placeS _ _ _ _ _ _).mono ?_; rintro e w1 ⟨rfl, hb⟩))
  all_goals (go_ret; refine ⟨ret_bool ?_, ?_⟩)
  all_goals first | (go_grown; done) | (simp [gVeh, *]; done) | (exact ((Below.refl _ _).alloc (Nat.le_refl _) _).trans (hb.mono (by simp)))

set_option maxHeartbeats 800000 in
theorem vehI (a b x y o c h : Int) (w : World) : Calls Tryz.prog 33 #[.agg #[.int .i64 a, .int .i64 b, .int .i64 x, .int .i64 y, .int .i64 o, .int .i64 c, .int .i64 h]] w fun e w' => e = .returned (.bool (gVeh a b x y o c h)) ∧ Below w.heap.size w w' := by
  go_enter Tryz.func33, Tryz.ntmps33
  go_wp2_with (first | (go_at_call 46; refine (inI _ _ _ _).mono ?_; rintro e w' ⟨rfl, rfl⟩) | (go_at_call 47; refine (placeI _ _ _ _ _ _).mono ?_; rintro e w1 ⟨rfl, hb⟩))
  all_goals (go_ret; refine ⟨ret_bool ?_, ?_⟩)
  all_goals first | (go_grown; done) | (simp [gVeh, *]; done) | (exact ((Below.refl _ _).alloc (Nat.le_refl _) _).trans (hb.mono (by simp)))

set_option maxHeartbeats 1600000 in
theorem reqS (a b x y o c h x' y' o' c' h' : Int) (w : World) : Calls Tryz.prog 14 #[.agg #[.int .i64 a, .int .i64 b, .int .i64 x, .int .i64 y, .int .i64 o, .int .i64 c, .int .i64 h, .int .i64 x', .int .i64 y', .int .i64 o', .int .i64 c', .int .i64 h']] w fun e w' => e = .returned (.bool (gReq a b x y o c h x' y' o' c' h')) ∧ Below w.heap.size w w' := by
  go_enter Tryz.func14, Tryz.ntmps14
  go_wp2_with (first | (go_at_call 31; refine (inS _ _ _ _).mono ?_; rintro e w' ⟨rfl, rfl⟩) | (go_at_call 32; refine (placeS _ _ _ _ _ _).mono ?_; rintro e w1 ⟨rfl, hb⟩; have hk := below_then (w := w) (by first | assumption | (go_grown; done)) hb; have hq := bcell hb; obtain ⟨hc, hf⟩ := hq; clear hb; try simp only [World.size_alloc] at hc hf))
  all_goals (go_ret; refine ⟨ret_bool ?_, ?_⟩)
  all_goals first | assumption | (go_grown; done) | (simp [gReq, *]; done)

set_option maxHeartbeats 1600000 in
theorem reqI (a b x y o c h x' y' o' c' h' : Int) (w : World) : Calls Tryz.prog 34 #[.agg #[.int .i64 a, .int .i64 b, .int .i64 x, .int .i64 y, .int .i64 o, .int .i64 c, .int .i64 h, .int .i64 x', .int .i64 y', .int .i64 o', .int .i64 c', .int .i64 h']] w fun e w' => e = .returned (.bool (gReq a b x y o c h x' y' o' c' h')) ∧ Below w.heap.size w w' := by
  go_enter Tryz.func34, Tryz.ntmps34
  go_wp2_with (first | (go_at_call 46; refine (inI _ _ _ _).mono ?_; rintro e w' ⟨rfl, rfl⟩) | (go_at_call 47; refine (placeI _ _ _ _ _ _).mono ?_; rintro e w1 ⟨rfl, hb⟩; have hk := below_then (w := w) (by first | assumption | (go_grown; done)) hb; have hq := bcell hb; obtain ⟨hc, hf⟩ := hq; clear hb; try simp only [World.size_alloc] at hc hf))
  all_goals (go_ret; refine ⟨ret_bool ?_, ?_⟩)
  all_goals first | assumption | (go_grown; done) | (simp [gReq, *]; done)

set_option maxHeartbeats 1600000 in
theorem roadS (a b t n : Int) (w : World) (hn0 : 0 ≤ n) (hn1 : n ≤ 4000000000) : Calls Tryz.prog 15 #[.agg #[.int .i64 a, .int .i64 b, .int .i64 t], .int .i64 n] w fun e w' => e = .returned (.bool (gRoad a b t n)) ∧ Below w.heap.size w w' := by
  go_enter Tryz.func15, Tryz.ntmps15
  go_wp2_with (go_at_call 31; refine (inS _ _ _ _).mono ?_; rintro e w' ⟨rfl, rfl⟩)
  all_goals (go_ret; refine ⟨ret_bool ?_, ?_⟩)
  all_goals first | (go_grown; done) | (simp [gRoad, *]; done) | trace_state

set_option maxHeartbeats 1600000 in
theorem roadI (a b t n : Int) (w : World) (hn0 : 0 ≤ n) (hn1 : n ≤ 4000000000) : Calls Tryz.prog 48 #[.agg #[.int .i64 a, .int .i64 b, .int .i64 t], .int .i64 n] w fun e w' => e = .returned (.bool (gRoad a b t n)) ∧ Below w.heap.size w w' := by
  go_enter Tryz.func48, Tryz.ntmps48
  go_wp2_with (go_at_call 46; refine (inI _ _ _ _).mono ?_; rintro e w' ⟨rfl, rfl⟩)
  all_goals (go_ret; refine ⟨ret_bool ?_, ?_⟩)
  all_goals first | (go_grown; done) | (simp [gRoad, *]; done) | trace_state

end Go.Proofs.YtefkdpppcjlflaaGreatDoor.Valid
namespace Go.Proofs.YtefkdpppcjlflaaGreatDoor.Valid
open Go Go.RowKit Go.Proofs.YtefkdpppcjlflaaGreatDoor.Mem
set_option linter.unusedVariables false
attribute [local go_sem ↓] Go.wp_at_zero Go.wp_at_succ

def beforeB (x y : Rd) : Bool := decide (x.a < y.a) || ((x.a == y.a) && decide (x.b < y.b))
def cmp3 (x y : Int) : Int := if x < y then -1 else if y < x then 1 else 0
def or2 (x y : Int) : Int := if x != 0 then x else y
def cmpR (x y : Rd) : Int := or2 (cmp3 x.a y.a) (cmp3 x.b y.b)
theorem cmp3_bd (x y : Int) : -1 ≤ cmp3 x y ∧ cmp3 x y ≤ 1 := by unfold cmp3; split <;> (try split) <;> omega
theorem cmpR_before (x y : Rd) : decide (0 ≤ cmpR x y) = !beforeB x y := by
  unfold cmpR or2 cmp3 beforeB
  by_cases h1 : x.a < y.a
  · simp [h1]
  · by_cases h2 : y.a < x.a
    · have : ¬ x.a = y.a := by omega
      simp [h1, h2, this]
    · have : x.a = y.a := by omega
      by_cases h3 : x.b < y.b
      · simp [this, h3]
      · by_cases h4 : y.b < x.b
        · simp [this, h3, h4]
        · simp [this, h3, h4]

set_option maxHeartbeats 1600000 in
theorem beforeS (x y : Rd) (w : World) : Calls Tryz.prog 17 #[.agg #[.int .i64 x.a, .int .i64 x.b, .int .i64 x.t], .agg #[.int .i64 y.a, .int .i64 y.b, .int .i64 y.t]] w fun e w' => e = .returned (.bool (beforeB x y)) ∧ Below w.heap.size w w' := by
  by_cases h1 : x.a < y.a
  · go_enter Tryz.func17, Tryz.ntmps17
    go_wp2
    go_ret
    exact ⟨ret_bool (by simp [beforeB, h1]), by go_grown⟩
  · have hd : decide (x.a < y.a) = false := by simpa using h1
    by_cases h2 : x.a = y.a
    · have hd2 : (x.a == y.a) = true := by simpa using h2
      have H2 := Hid.mk h2
      clear h2
      go_enter Tryz.func17, Tryz.ntmps17
      go_wp2
      go_ret
      exact ⟨ret_bool (by simp [beforeB, H2.out]), by go_grown⟩
    · have hd2 : (x.a == y.a) = false := by simpa using h2
      go_enter Tryz.func17, Tryz.ntmps17
      go_wp2
      go_ret
      exact ⟨ret_bool (by simp [beforeB, h2]; omega), by go_grown⟩

theorem isNaN (x : Int) (w : World) : Calls Tryz.prog 73 #[.int .i64 x] w fun e w' => e = .returned (.bool false) ∧ w' = w := by
  go_enter Tryz.func73, Tryz.ntmps73
  go_wp2
  go_ret
  exact ⟨ret_bool (by simp), rfl⟩

theorem compare (x y : Int) (w : World) : Calls Tryz.prog 62 #[.int .i64 x, .int .i64 y] w fun e w' => e = .returned (.int .i64 (cmp3 x y)) ∧ w' = w := by
  unfold cmp3
  by_cases h1 : x < y
  · rw [if_pos h1]
    go_enter Tryz.func62, Tryz.ntmps62
    go_wp2_with (go_at_call 73; refine (isNaN _ _).mono ?_; rintro e w' ⟨rfl, rfl⟩)
    go_ret
    exact ⟨rfl, rfl⟩
  · by_cases h2 : y < x
    · rw [if_neg h1, if_pos h2]
      go_enter Tryz.func62, Tryz.ntmps62
      go_wp2_with (go_at_call 73; refine (isNaN _ _).mono ?_; rintro e w' ⟨rfl, rfl⟩)
      go_ret
      exact ⟨rfl, rfl⟩
    · rw [if_neg h1, if_neg h2]
      go_enter Tryz.func62, Tryz.ntmps62
      go_wp2_with (go_at_call 73; refine (isNaN _ _).mono ?_; rintro e w' ⟨rfl, rfl⟩)
      go_ret
      exact ⟨rfl, rfl⟩

/-- cmp.Or over two numbers in a block. -/
theorem orTwo (b : Nat) (x y : Int) (w : World) (h0 : w.cell? ⟨b, 0, none⟩ = some (.int .i64 x)) (h1 : w.cell? ⟨b, 1, none⟩ = some (.int .i64 y)) : Calls Tryz.prog 61 #[.slice (some ⟨b, 0, none⟩) 2 2] w fun e w' => e = .returned (.int .i64 (or2 x y)) ∧ w' = w := by
  unfold or2
  by_cases hx : x = 0
  · have hx' : (x != 0) = false := by simp [hx]
    have HX := Hid.mk hx
    clear hx
    by_cases hy : y = 0
    · have hy' : (y != 0) = false := by simp [hy]
      have HY := Hid.mk hy
      clear hy
      rw [if_neg (by simp [hx'])]
      go_enter Tryz.func61, Tryz.ntmps61
      go_wp2
      refine wp_loop_rounds 3 ?_
      rw [rounds_succ]
      go_wp2
      rw [rounds_succ]
      go_wp2
      rw [rounds_succ]
      go_wp2
      go_ret
      exact ⟨by rw [HY.out]; rfl, rfl⟩
    · have hy' : (y != 0) = true := by simp [hy]
      rw [if_neg (by simp [hx'])]
      go_enter Tryz.func61, Tryz.ntmps61
      go_wp2
      refine wp_loop_rounds 3 ?_
      rw [rounds_succ]
      go_wp2
      rw [rounds_succ]
      go_wp2
      go_ret
      exact ⟨rfl, rfl⟩
  · have hx' : (x != 0) = true := by simp [hx]
    rw [if_pos hx']
    go_enter Tryz.func61, Tryz.ntmps61
    go_wp2
    refine wp_loop_rounds 3 ?_
    rw [rounds_succ]
    go_wp2
    go_ret
    exact ⟨rfl, rfl⟩

set_option maxHeartbeats 1600000 in
theorem compareRoads (x y : Rd) (w : World) : Calls Tryz.prog 49 #[.agg #[.int .i64 x.a, .int .i64 x.b, .int .i64 x.t], .agg #[.int .i64 y.a, .int .i64 y.b, .int .i64 y.t]] w fun e w' => e = .returned (.int .i64 (cmpR x y)) ∧ Below w.heap.size w w' := by
  go_enter Tryz.func49, Tryz.ntmps49
  go_wp2_with fail
  go_region_held3 (fun w' => w'.cell? ⟨w.heap.size, 0, none⟩ = some (.int .i64 x.a) ∧ w'.cell? ⟨w.heap.size, 1, none⟩ = some (.int .i64 x.b) ∧ w'.cell? ⟨w.heap.size + 1, 0, none⟩ = some (.int .i64 y.a) ∧ w'.cell? ⟨w.heap.size + 1, 1, none⟩ = some (.int .i64 y.b)) (go_keep)
    ((first | (go_at_call 62; refine (compare _ _ _).mono ?_; rintro e w' ⟨rfl, rfl⟩) | (go_at_call 61; refine (orTwo _ (cmp3 x.a y.a) (cmp3 x.b y.b) _ ?_ ?_).mono ?_; (go_simp); (go_simp); rintro e w' ⟨rfl, rfl⟩)))
  go_wp2
  go_ret
  exact ⟨rfl, by go_grown⟩
end Go.Proofs.YtefkdpppcjlflaaGreatDoor.Valid
namespace Go.Proofs.YtefkdpppcjlflaaGreatDoor.Valid
open Go Go.RowKit Go.Proofs.YtefkdpppcjlflaaGreatDoor.Mem
set_option linter.unusedVariables false
attribute [local go_sem ↓] Go.wp_at_zero Go.wp_at_succ

def nodes (I : In) : Int := (I.nV : Int) + 2 * (I.nQ : Int)
def gV (v : Veh) : Bool := gVeh v.a v.b v.x v.y v.o v.c v.h
def gQ (q : Req) : Bool := gReq q.a q.b q.x q.y q.o q.c q.h q.x' q.y' q.o' q.c' q.h'
def gR (r : Rd) (n : Int) : Bool := gRoad r.a r.b r.t n
def rdOk (I : In) (i : Nat) : Bool := gR (I.R i) (nodes I) && (i == 0 || beforeB (I.R (i - 1)) (I.R i))
def lens (I : In) : Bool := !(decide (64 < I.nV) || decide (1000 < I.nQ) || decide (4000 < I.nR))
/-- The instance keeps every bound. -/
def validB (I : In) : Bool := lens I && allB I.nV (fun i => gV (I.V i)) && allB I.nQ (fun i => gQ (I.Q i)) && allB I.nR (rdOk I)

theorem valid_lens {I : In} (h : lens I = false) : validB I = false := by simp [validB, h]
theorem valid_V {I : In} {k : Nat} (hk : k < I.nV) (h : gV (I.V k) = false) : validB I = false := by
  simp [validB, allB_false (f := fun i => gV (I.V i)) hk h]
theorem valid_Q {I : In} {k : Nat} (hk : k < I.nQ) (h : gQ (I.Q k) = false) : validB I = false := by
  simp [validB, allB_false (f := fun i => gQ (I.Q i)) hk h]
theorem valid_R {I : In} {k : Nat} (hk : k < I.nR) (h : rdOk I k = false) : validB I = false := by
  simp [validB, allB_false (f := rdOk I) hk h]
theorem valid_true {I : In} (h0 : lens I = true) (h1 : allB I.nV (fun i => gV (I.V i)) = true) (h2 : allB I.nQ (fun i => gQ (I.Q i)) = true) (h3 : allB I.nR (rdOk I) = true) : validB I = true := by
  simp [validB, h0, h1, h2, h3]


theorem nodesS (a1 a2 a3 : Option Addr) (c1 c2 c3 : Nat) (I : In) (w : World) (h1 : I.nV ≤ 1048576) (h2 : I.nQ ≤ 1048576) :
    Calls Tryz.prog 16 #[.agg #[.slice a1 I.nV c1, .slice a2 I.nQ c2, .slice a3 I.nR c3]] w fun e w' => e = .returned (.int .i64 (nodes I)) ∧ Below w.heap.size w w' := by
  unfold nodes
  go_enter Tryz.func16, Tryz.ntmps16
  go_wp2
  go_ret
  exact ⟨rfl, by go_grown⟩

theorem nodesI (a1 a2 a3 : Option Addr) (c1 c2 c3 : Nat) (I : In) (w : World) (h1 : I.nV ≤ 1048576) (h2 : I.nQ ≤ 1048576) :
    Calls Tryz.prog 36 #[.agg #[.slice a1 I.nV c1, .slice a2 I.nQ c2, .slice a3 I.nR c3]] w fun e w' => e = .returned (.int .i64 (nodes I)) ∧ Below w.heap.size w w' := by
  unfold nodes
  go_enter Tryz.func36, Tryz.ntmps36
  go_wp2
  go_ret
  exact ⟨rfl, by go_grown⟩

theorem nodes_bd (I : In) (h1 : I.nV ≤ 1048576) (h2 : I.nQ ≤ 1048576) : 0 ≤ nodes I ∧ nodes I ≤ 4000000000 := by unfold nodes; omega
end Go.Proofs.YtefkdpppcjlflaaGreatDoor.Valid
namespace Go.Proofs.YtefkdpppcjlflaaGreatDoor.Parse
open Go Go.RowKit Go.Proofs.YtefkdpppcjlflaaGreatDoor.Mem Go.Proofs.YtefkdpppcjlflaaGreatDoor.Valid
set_option linter.unusedVariables false
set_option linter.unusedSimpArgs false

/-- What the lines so far have given. -/
structure Acc where
  (V : List Veh) (Q : List Req) (R : List Mem.Rd)
def fld (f : List (List UInt8)) (k : Nat) : List UInt8 := f.getD k []
def tagsOf (t : List UInt8) : Int := tagsV t t.length
def vehOf (f : List (List UInt8)) : Veh := ⟨num (fld f 1), tagsOf (fld f 2), num (fld f 3), num (fld f 4), num (fld f 5), num (fld f 6), num (fld f 7)⟩
def reqOf (f : List (List UInt8)) : Req := ⟨num (fld f 1), tagsOf (fld f 2), num (fld f 3), num (fld f 4), num (fld f 5), num (fld f 6), num (fld f 7), num (fld f 8), num (fld f 9), num (fld f 10), num (fld f 11), num (fld f 12)⟩
def rdOf (f : List (List UInt8)) : Mem.Rd := ⟨num (fld f 1), num (fld f 2), num (fld f 3)⟩
def want (k : Int) : Nat := if k = 2 then 13 else if k = 3 then 4 else 8
/-- Is field i of a line of kind k of the right form? -/
def okFld (k : Int) (f : List (List UInt8)) (i : Nat) : Bool := if k < 3 ∧ i = 2 then isTags (fld f i) else isNum (fld f i)
def okFlds (k : Int) (f : List (List UInt8)) : Bool := allB (f.length - 1) (fun i => okFld k f (i + 1))
def nodesA (s : Acc) : Int := (s.V.length : Int) + 2 * (s.Q.length : Int)
def lastBefore (s : Acc) (r : Mem.Rd) : Bool := match s.R.getLast? with | none => true | some x => beforeB x r
def addV (s : Acc) (v : Veh) : Int × Acc := if gVeh v.a v.b v.x v.y v.o v.c v.h = false then (7, s) else if s.V.length = 64 then (9, s) else (0, { s with V := s.V ++ [v] })
def addQ (s : Acc) (q : Req) : Int × Acc := if gReq q.a q.b q.x q.y q.o q.c q.h q.x' q.y' q.o' q.c' q.h' = false then (7, s) else if s.Q.length = 1000 then (9, s) else (0, { s with Q := s.Q ++ [q] })
def addR (s : Acc) (r : Mem.Rd) : Int × Acc := if gRoad r.a r.b r.t (nodesA s) = false then (7, s) else if lastBefore s r = false then (8, s) else if s.R.length = 4000 then (9, s) else (0, { s with R := s.R ++ [r] })
def lineK (s : Acc) (f : List (List UInt8)) (k : Int) : Int × Acc :=
  if k = 0 then (3, s)
  else if (0 < s.R.length ∧ k < 3) ∨ (0 < s.Q.length ∧ k < 2) then (4, s)
  else if f.length ≠ want k then (5, s)
  else if okFlds k f = false then (6, s)
  else if k = 1 then addV s (vehOf f)
  else if k = 2 then addQ s (reqOf f)
  else addR s (rdOf f)
def lineF (s : Acc) (ln : List UInt8) : Int × Acc := lineK s (split 32 ln) (kindOf (fld (split 32 ln) 0))

/-- The rows of what the lines so far have given: the call's own, from block B on. -/
structure AccAt (B : Nat) (w : World) (v1 v2 v3 : Value) (s : Acc) : Prop where
  v : w.ownsRow B 45 7 v1 s.V.length (s.V.flatMap Veh.cells)
  q : w.ownsRow B 48 12 v2 s.Q.length (s.Q.flatMap Req.cells)
  r : w.ownsRow B 51 3 v3 s.R.length (s.R.flatMap Rd.cells)
theorem AccAt.below {B : Nat} {w w' : World} {v1 v2 v3 : Value} {s : Acc} (h : AccAt B w v1 v2 v3 s) (hb : Below w.heap.size w w') : AccAt B w' v1 v2 v3 s := ⟨row_below h.v hb, row_below h.q hb, row_below h.r hb⟩
theorem kind_cases (f : List UInt8) : kindOf f = 0 ∨ kindOf f = 1 ∨ kindOf f = 2 ∨ kindOf f = 3 := by
  unfold kindOf
  split
  · simp
  · split
    · simp
    · split <;> simp
theorem split_pos (sep : UInt8) (bs : List UInt8) : 0 < (split sep bs).length := by unfold split; simp
theorem split_len (sep : UInt8) (bs : List UInt8) : (split sep bs).length ≤ bs.length + 1 := by
  have := spl_len sep bs
  unfold split
  simp
  omega
theorem spl_each (sep : UInt8) : ∀ (bs : List UInt8), (∀ x ∈ (spl sep bs).1, x.length ≤ bs.length) ∧ (spl sep bs).2.length ≤ bs.length := by
  refine snoc_ind ?_ ?_
  · simp [spl]
  · intro l b ih
    rw [spl_snoc, List.length_append, List.length_singleton]
    unfold stp
    split
    · refine ⟨fun x hx => ?_, by simp⟩
      rcases List.mem_append.1 hx with h | h
      · have := ih.1 x h; omega
      · have e : x = (spl sep l).2 := by simpa using h
        rw [e]; have := ih.2; omega
    · refine ⟨fun x hx => ?_, ?_⟩
      · have := ih.1 x hx; omega
      · simp; exact ih.2
theorem split_each (sep : UInt8) (bs : List UInt8) (k : Nat) : ((split sep bs).getD k []).length ≤ bs.length := by
  by_cases h : k < (split sep bs).length
  · have e : (split sep bs).getD k [] = (split sep bs)[k] := by simp [List.getD, h]
    have hm := List.getElem_mem h
    rw [e]
    have := spl_each sep bs
    generalize (split sep bs)[k] = x at hm
    unfold split at hm
    rcases List.mem_append.1 hm with h | h
    · exact this.1 x h
    · have e : x = (spl sep bs).2 := by simpa using h
      rw [e]; exact this.2
  · have : (split sep bs).getD k [] = [] := by simp [List.getD, h]
    rw [this]; simp
end Go.Proofs.YtefkdpppcjlflaaGreatDoor.Parse
