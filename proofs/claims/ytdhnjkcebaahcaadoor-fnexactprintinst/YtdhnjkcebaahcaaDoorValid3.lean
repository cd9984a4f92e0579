import Derived.Test.YtdhnjkcebaahcaaDoorValid2
import Derived.Deep.DrawnRows
namespace Go.Proofs.YtdhnjkcebaahcaaDoor.Valid
open Go Go.RowKit Go.Proofs.YtdhnjkcebaahcaaDoor.Mem
set_option linter.unusedVariables false
attribute [local go_sem ↓] Go.wp_at_zero Go.wp_at_succ

def nodes (I : In) : Int := (I.nV : Int) + 2 * (I.nQ : Int)
def gV (v : Veh) : Bool := gVeh v.a v.b v.x v.y v.o v.c v.h
def gQ (q : Req) : Bool := gReq q.a q.b q.x q.y q.o q.c q.h q.x' q.y' q.o' q.c' q.h'
def gR (r : Rd) (n : Int) : Bool := gRoad r.a r.b r.t n
def rdOk (I : In) (i : Nat) : Bool := gR (I.R i) (nodes I) && (i == 0 || beforeB (I.R (i - 1)) (I.R i))
def lens (I : In) : Bool := !(decide (64 < I.nV) || decide (1000 < I.nQ) || decide (4000 < I.nR))
/-- The instance keeps every bound. -/
def validB (I : In) : Bool := lens I && allB I.nV (fun i => gV (I.V i)) && allB I.nQ (fun i => gQ (I.Q i)) && allB I.nR (rdOk I)

theorem valid_lens {I : In} (h : lens I = false) : validB I = false := by simp [validB, h]
theorem valid_V {I : In} {k : Nat} (hk : k < I.nV) (h : gV (I.V k) = false) : validB I = false := by
  simp [validB, allB_false (f := fun i => gV (I.V i)) hk h]
theorem valid_Q {I : In} {k : Nat} (hk : k < I.nQ) (h : gQ (I.Q k) = false) : validB I = false := by
  simp [validB, allB_false (f := fun i => gQ (I.Q i)) hk h]
theorem valid_R {I : In} {k : Nat} (hk : k < I.nR) (h : rdOk I k = false) : validB I = false := by
  simp [validB, allB_false (f := rdOk I) hk h]
theorem valid_true {I : In} (h0 : lens I = true) (h1 : allB I.nV (fun i => gV (I.V i)) = true) (h2 : allB I.nQ (fun i => gQ (I.Q i)) = true) (h3 : allB I.nR (rdOk I) = true) : validB I = true := by
  simp [validB, h0, h1, h2, h3]


theorem nodesS (a1 a2 a3 : Option Addr) (c1 c2 c3 : Nat) (I : In) (w : World) (h1 : I.nV ≤ 1048576) (h2 : I.nQ ≤ 1048576) :
    Calls Tryd.prog 65 #[.agg #[.slice a1 I.nV c1, .slice a2 I.nQ c2, .slice a3 I.nR c3]] w fun e w' => e = .returned (.int .i64 (nodes I)) ∧ Below w.heap.size w w' := by
  unfold nodes
  go_enter Tryd.func65, Tryd.ntmps65
  go_wp2
  go_ret
  exact ⟨rfl, by go_grown⟩

theorem nodesI (a1 a2 a3 : Option Addr) (c1 c2 c3 : Nat) (I : In) (w : World) (h1 : I.nV ≤ 1048576) (h2 : I.nQ ≤ 1048576) :
    Calls Tryd.prog 77 #[.agg #[.slice a1 I.nV c1, .slice a2 I.nQ c2, .slice a3 I.nR c3]] w fun e w' => e = .returned (.int .i64 (nodes I)) ∧ Below w.heap.size w w' := by
  unfold nodes
  go_enter Tryd.func77, Tryd.ntmps77
  go_wp2
  go_ret
  exact ⟨rfl, by go_grown⟩

theorem nodes_bd (I : In) (h1 : I.nV ≤ 1048576) (h2 : I.nQ ≤ 1048576) : 0 ≤ nodes I ∧ nodes I ≤ 4000000000 := by unfold nodes; omega
end Go.Proofs.YtdhnjkcebaahcaaDoor.Valid
