import Derived.Test.YtgooegcmgejfpaaGreatDoorFn01
import Derived.Test.YtgooegcmgejfpaaGreatDoorFn02
import Derived.Deep.DrawnRows
namespace Go.Proofs.YtgooegcmgejfpaaGreatDoor.Valid
open Go Go.RowKit Go.Proofs.YtgooegcmgejfpaaGreatDoor.Mem
set_option linter.unusedVariables false
attribute [local go_sem ↓] Go.wp_at_zero Go.wp_at_succ

def beforeB (x y : Rd) : Bool := decide (x.a < y.a) || ((x.a == y.a) && decide (x.b < y.b))
def cmp3 (x y : Int) : Int := if x < y then -1 else if y < x then 1 else 0
def or2 (x y : Int) : Int := if x != 0 then x else y
def cmpR (x y : Rd) : Int := or2 (cmp3 x.a y.a) (cmp3 x.b y.b)
theorem cmp3_bd (x y : Int) : -1 ≤ cmp3 x y ∧ cmp3 x y ≤ 1 := by unfold cmp3; split <;> (try split) <;> omega
theorem cmpR_before (x y : Rd) : decide (0 ≤ cmpR x y) = !beforeB x y := by
  unfold cmpR or2 cmp3 beforeB
  by_cases h1 : x.a < y.a
  · simp [h1]
  · by_cases h2 : y.a < x.a
    · have : ¬ x.a = y.a := by omega
      simp [h1, h2, this]
    · have : x.a = y.a := by omega
      by_cases h3 : x.b < y.b
      · simp [this, h3]
      · by_cases h4 : y.b < x.b
        · simp [this, h3, h4]
        · simp [this, h3, h4]

set_option maxHeartbeats 1600000 in
theorem beforeS (x y : Rd) (w : World) : Calls Tryz.prog 86 #[.agg #[.int .i64 x.a, .int .i64 x.b, .int .i64 x.t], .agg #[.int .i64 y.a, .int .i64 y.b, .int .i64 y.t]] w fun e w' => e = .returned (.bool (beforeB x y)) ∧ Below w.heap.size w w' := by
  by_cases h1 : x.a < y.a
  · go_enter Tryz.func86, Tryz.ntmps86
    go_wp2
    go_ret
    exact ⟨ret_bool (by simp [beforeB, h1]), by go_grown⟩
  · have hd : decide (x.a < y.a) = false := by simpa using h1
    by_cases h2 : x.a = y.a
    · have hd2 : (x.a == y.a) = true := by simpa using h2
      have H2 := Hid.mk h2
      clear h2
      go_enter Tryz.func86, Tryz.ntmps86
      go_wp2
      go_ret
      exact ⟨ret_bool (by simp [beforeB, H2.out]), by go_grown⟩
    · have hd2 : (x.a == y.a) = false := by simpa using h2
      go_enter Tryz.func86, Tryz.ntmps86
      go_wp2
      go_ret
      exact ⟨ret_bool (by simp [beforeB, h2]; omega), by go_grown⟩

theorem isNaN (x : Int) (w : World) : Calls Tryz.prog 187 #[.int .i64 x] w fun e w' => e = .returned (.bool false) ∧ w' = w := by
  go_enter Tryz.func187, Tryz.ntmps187
  go_wp2
  go_ret
  exact ⟨ret_bool (by simp), rfl⟩

theorem compare (x y : Int) (w : World) : Calls Tryz.prog 184 #[.int .i64 x, .int .i64 y] w fun e w' => e = .returned (.int .i64 (cmp3 x y)) ∧ w' = w := by
  unfold cmp3
  by_cases h1 : x < y
  · rw [if_pos h1]
    go_enter Tryz.func184, Tryz.ntmps184
    go_wp2_with (go_at_call 187; refine (isNaN _ _).mono ?_; rintro e w' ⟨rfl, rfl⟩)
    go_ret
    exact ⟨rfl, rfl⟩
  · by_cases h2 : y < x
    · rw [if_neg h1, if_pos h2]
      go_enter Tryz.func184, Tryz.ntmps184
      go_wp2_with (go_at_call 187; refine (isNaN _ _).mono ?_; rintro e w' ⟨rfl, rfl⟩)
      go_ret
      exact ⟨rfl, rfl⟩
    · rw [if_neg h1, if_neg h2]
      go_enter Tryz.func184, Tryz.ntmps184
      go_wp2_with (go_at_call 187; refine (isNaN _ _).mono ?_; rintro e w' ⟨rfl, rfl⟩)
      go_ret
      exact ⟨rfl, rfl⟩

/-- cmp.Or over two numbers in a block. -/
theorem orTwo (b : Nat) (x y : Int) (w : World) (h0 : w.cell? ⟨b, 0, none⟩ = some (.int .i64 x)) (h1 : w.cell? ⟨b, 1, none⟩ = some (.int .i64 y)) : Calls Tryz.prog 183 #[.slice (some ⟨b, 0, none⟩) 2 2] w fun e w' => e = .returned (.int .i64 (or2 x y)) ∧ w' = w := by
  unfold or2
  by_cases hx : x = 0
  · have hx' : (x != 0) = false := by simp [hx]
    have HX := Hid.mk hx
    clear hx
    by_cases hy : y = 0
    · have hy' : (y != 0) = false := by simp [hy]
      have HY := Hid.mk hy
      clear hy
      rw [if_neg (by simp [hx'])]
      go_enter Tryz.func183, Tryz.ntmps183
      go_wp2
      refine wp_loop_rounds 3 ?_
      rw [rounds_succ]
      go_wp2
      rw [rounds_succ]
      go_wp2
      rw [rounds_succ]
      go_wp2
      go_ret
      exact ⟨by rw [HY.out]; rfl, rfl⟩
    · have hy' : (y != 0) = true := by simp [hy]
      rw [if_neg (by simp [hx'])]
      go_enter Tryz.func183, Tryz.ntmps183
      go_wp2
      refine wp_loop_rounds 3 ?_
      rw [rounds_succ]
      go_wp2
      rw [rounds_succ]
      go_wp2
      go_ret
      exact ⟨rfl, rfl⟩
  · have hx' : (x != 0) = true := by simp [hx]
    rw [if_pos hx']
    go_enter Tryz.func183, Tryz.ntmps183
    go_wp2
    refine wp_loop_rounds 3 ?_
    rw [rounds_succ]
    go_wp2
    go_ret
    exact ⟨rfl, rfl⟩

set_option maxHeartbeats 1600000 in
theorem compareRoads (x y : Rd) (w : World) : Calls Tryz.prog 175 #[.agg #[.int .i64 x.a, .int .i64 x.b, .int .i64 x.t], .agg #[.int .i64 y.a, .int .i64 y.b, .int .i64 y.t]] w fun e w' => e = .returned (.int .i64 (cmpR x y)) ∧ Below w.heap.size w w' := by
  go_enter Tryz.func175, Tryz.ntmps175
  go_wp2_with fail
  go_region_held3 (fun w' => w'.cell? ⟨w.heap.size, 0, none⟩ = some (.int .i64 x.a) ∧ w'.cell? ⟨w.heap.size, 1, none⟩ = some (.int .i64 x.b) ∧ w'.cell? ⟨w.heap.size + 1, 0, none⟩ = some (.int .i64 y.a) ∧ w'.cell? ⟨w.heap.size + 1, 1, none⟩ = some (.int .i64 y.b)) (go_keep)
    ((first | (go_at_call 184; refine (compare _ _ _).mono ?_; rintro e w' ⟨rfl, rfl⟩) | (go_at_call 183; refine (orTwo _ (cmp3 x.a y.a) (cmp3 x.b y.b) _ ?_ ?_).mono ?_; (go_simp); (go_simp); rintro e w' ⟨rfl, rfl⟩)))
  go_wp2
  go_ret
  exact ⟨rfl, by go_grown⟩
end Go.Proofs.YtgooegcmgejfpaaGreatDoor.Valid
namespace Go.Proofs.YtgooegcmgejfpaaGreatDoor.Valid
open Go Go.RowKit Go.Proofs.YtgooegcmgejfpaaGreatDoor.Mem
set_option linter.unusedVariables false
attribute [local go_sem ↓] Go.wp_at_zero Go.wp_at_succ

def nodes (I : In) : Int := (I.nV : Int) + 2 * (I.nQ : Int)
def gV (v : Veh) : Bool := gVeh v.a v.b v.x v.y v.o v.c v.h
def gQ (q : Req) : Bool := gReq q.a q.b q.x q.y q.o q.c q.h q.x' q.y' q.o' q.c' q.h'
def gR (r : Rd) (n : Int) : Bool := gRoad r.a r.b r.t n
def rdOk (I : In) (i : Nat) : Bool := gR (I.R i) (nodes I) && (i == 0 || beforeB (I.R (i - 1)) (I.R i))
def lens (I : In) : Bool := !(decide (64 < I.nV) || decide (1000 < I.nQ) || decide (4000 < I.nR))
/-- The instance keeps every bound. -/
def validB (I : In) : Bool := lens I && allB I.nV (fun i => gV (I.V i)) && allB I.nQ (fun i => gQ (I.Q i)) && allB I.nR (rdOk I)

theorem valid_lens {I : In} (h : lens I = false) : validB I = false := by simp [validB, h]
theorem valid_V {I : In} {k : Nat} (hk : k < I.nV) (h : gV (I.V k) = false) : validB I = false := by
  simp [validB, allB_false (f := fun i => gV (I.V i)) hk h]
theorem valid_Q {I : In} {k : Nat} (hk : k < I.nQ) (h : gQ (I.Q k) = false) : validB I = false := by
  simp [validB, allB_false (f := fun i => gQ (I.Q i)) hk h]
theorem valid_R {I : In} {k : Nat} (hk : k < I.nR) (h : rdOk I k = false) : validB I = false := by
  simp [validB, allB_false (f := rdOk I) hk h]
theorem valid_true {I : In} (h0 : lens I = true) (h1 : allB I.nV (fun i => gV (I.V i)) = true) (h2 : allB I.nQ (fun i => gQ (I.Q i)) = true) (h3 : allB I.nR (rdOk I) = true) : validB I = true := by
  simp [validB, h0, h1, h2, h3]


theorem nodesS (a1 a2 a3 : Option Addr) (c1 c2 c3 : Nat) (I : In) (w : World) (h1 : I.nV ≤ 1048576) (h2 : I.nQ ≤ 1048576) :
    Calls Tryz.prog 85 #[.agg #[.slice a1 I.nV c1, .slice a2 I.nQ c2, .slice a3 I.nR c3]] w fun e w' => e = .returned (.int .i64 (nodes I)) ∧ Below w.heap.size w w' := by
  unfold nodes
  go_enter Tryz.func85, Tryz.ntmps85
  go_wp2
  go_ret
  exact ⟨rfl, by go_grown⟩

theorem nodesI (a1 a2 a3 : Option Addr) (c1 c2 c3 : Nat) (I : In) (w : World) (h1 : I.nV ≤ 1048576) (h2 : I.nQ ≤ 1048576) :
    Calls Tryz.prog 120 #[.agg #[.slice a1 I.nV c1, .slice a2 I.nQ c2, .slice a3 I.nR c3]] w fun e w' => e = .returned (.int .i64 (nodes I)) ∧ Below w.heap.size w w' := by
  unfold nodes
  go_enter Tryz.func120, Tryz.ntmps120
  go_wp2
  go_ret
  exact ⟨rfl, by go_grown⟩

theorem nodes_bd (I : In) (h1 : I.nV ≤ 1048576) (h2 : I.nQ ≤ 1048576) : 0 ≤ nodes I ∧ nodes I ≤ 4000000000 := by unfold nodes; omega
end Go.Proofs.YtgooegcmgejfpaaGreatDoor.Valid
