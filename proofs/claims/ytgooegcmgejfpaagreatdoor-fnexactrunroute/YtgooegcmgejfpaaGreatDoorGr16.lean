import Derived.Test.YtgooegcmgejfpaaGreatDoorGr15
import Derived.Deep.DrawnRows
import Derived.Test.YtgooegcmgejfpaaGreatDoorGr08
import Derived.Test.YtgooegcmgejfpaaGreatDoorGr13
import Derived.Test.YtgooegcmgejfpaaGreatDoorGr11
namespace Go.Proofs.YtgooegcmgejfpaaGreatDoor.StV
open Go Go.RowKit Go.Proofs.YtgooegcmgejfpaaGreatDoor.Mem
open Go.Proofs.YtgooegcmgejfpaaGreatDoor.Valid (inB ret_bool nodes validB inI inS nodes_bd nodesI nodesS)
set_option linter.unusedVariables false
set_option linter.unusedSimpArgs false
attribute [local go_sem ↓] Go.wp_at_zero Go.wp_at_succ

set_option maxHeartbeats 1600000 in
set_option maxRecDepth 100000 in
theorem bareS (a1 a2 a3 : Option Addr) (c1 c2 c3 : Nat) (S : St) (w : World) :
    Calls Tryz.prog 113 #[.agg #[.int .i64 S.p, .int .i64 S.r, .int .i64 S.d, .int .i64 S.t, .int .i64 S.s, .int .i64 S.l, .slice a1 S.n1 c1, .slice a2 S.n2 c2, .slice a3 S.n3 c3]] w fun e w' => e = .returned (.bool (bareB S)) ∧ Below w.heap.size w w' := by
  go_enter Tryz.func113, Tryz.ntmps113
  go_wp2
  all_goals (go_ret; refine ⟨ret_bool ?_, ?_⟩)
  all_goals first | (go_grown; done) | (simp [bareB, *]; done)
set_option maxHeartbeats 1600000 in
set_option maxRecDepth 100000 in
theorem bareI (a1 a2 a3 : Option Addr) (c1 c2 c3 : Nat) (S : St) (w : World) :
    Calls Tryz.prog 119 #[.agg #[.int .i64 S.p, .int .i64 S.r, .int .i64 S.d, .int .i64 S.t, .int .i64 S.s, .int .i64 S.l, .slice a1 S.n1 c1, .slice a2 S.n2 c2, .slice a3 S.n3 c3]] w fun e w' => e = .returned (.bool (bareB S)) ∧ Below w.heap.size w w' := by
  go_enter Tryz.func119, Tryz.ntmps119
  go_wp2
  all_goals (go_ret; refine ⟨ret_bool ?_, ?_⟩)
  all_goals first | (go_grown; done) | (simp [bareB, *]; done)
set_option maxHeartbeats 1600000 in
set_option maxRecDepth 100000 in
theorem deadI (a1 a2 a3 : Option Addr) (c1 c2 c3 : Nat) (S : St) (w : World) :
    Calls Tryz.prog 72 #[.agg #[.int .i64 S.p, .int .i64 S.r, .int .i64 S.d, .int .i64 S.t, .int .i64 S.s, .int .i64 S.l, .slice a1 S.n1 c1, .slice a2 S.n2 c2, .slice a3 S.n3 c3]] w fun e w' => e = .returned (.bool (deadB S)) ∧ Below w.heap.size w w' := by
  cases h1 : (S.p == -1) with
  | false =>
    go_enter Tryz.func72, Tryz.ntmps72
    go_wp2
    go_ret
    exact ⟨ret_bool (by simp only [deadB, h1, Bool.false_and]), by go_grown⟩
  | true =>
    cases h2 : (S.r == -1) with
    | false =>
      go_enter Tryz.func72, Tryz.ntmps72
      go_wp2
      go_ret
      exact ⟨ret_bool (by simp only [deadB, h2, Bool.false_and, Bool.and_false]), by go_grown⟩
    | true =>
      have hd : Hid (deadB S = bareB S) := by unfold Hid deadB; rw [h1, h2]; rfl
      go_enter Tryz.func72, Tryz.ntmps72
      go_wp2_with fail
      refine (bareI a1 a2 a3 c1 c2 c3 S _).mono ?_
      rintro e w1 ⟨rfl, hb⟩
      have hk := Hid.mk (below_then (w := w) (by go_grown) hb)
      clear hb
      go_wp2
      go_ret
      exact ⟨ret_bool hd.out.symm, hk.out⟩
set_option maxHeartbeats 1600000 in
set_option maxRecDepth 100000 in
theorem failI (a1 a2 a3 : Option Addr) (c1 c2 c3 : Nat) (S : St) (w : World) :
    Calls Tryz.prog 117 #[.agg #[.int .i64 S.p, .int .i64 S.r, .int .i64 S.d, .int .i64 S.t, .int .i64 S.s, .int .i64 S.l, .slice a1 S.n1 c1, .slice a2 S.n2 c2, .slice a3 S.n3 c3]] w fun e w' => e = .returned (.bool (failB S)) ∧ Below w.heap.size w w' := by
  go_enter Tryz.func117, Tryz.ntmps117
  go_wp2_with (first | (go_at_call 102; refine (inI _ _ _ _).mono ?_; rintro e w' ⟨rfl, rfl⟩) | (go_at_call 119; refine (bareI a1 a2 a3 c1 c2 c3 S _).mono ?_; rintro e w1 ⟨rfl, hb⟩))
  all_goals (go_ret; refine ⟨ret_bool ?_, ?_⟩)
  all_goals first | (go_grown; done) | (simp [failB, *]; done) | exact below_then (by go_grown) hb
set_option maxHeartbeats 1600000 in
set_option maxRecDepth 100000 in
theorem stopI (a1 a2 a3 : Option Addr) (c1 c2 c3 : Nat) (I : In) (x : Int) (w : World) (h1 : I.nV ≤ 1048576) (h2 : I.nQ ≤ 1048576) :
    Calls Tryz.prog 73 #[.agg #[.slice a1 I.nV c1, .slice a2 I.nQ c2, .slice a3 I.nR c3], .int .i64 x] w fun e w' => e = .returned (.bool (stopB I x)) ∧ Below w.heap.size w w' := by
  have nb := nodes_bd I h1 h2
  go_enter Tryz.func73, Tryz.ntmps73
  go_wp2_with fail
  go_region_held3 (fun w' => w'.cell? ⟨w.heap.size, 0, none⟩ = some (.slice a1 I.nV c1) ∧ w'.cell? ⟨w.heap.size, 1, none⟩ = some (.slice a2 I.nQ c2) ∧ w'.cell? ⟨w.heap.size, 2, none⟩ = some (.slice a3 I.nR c3))
    (first | go_keep | ((repeat' constructor) <;> exact cell_keep hb1 (by first | assumption | (simp [*]; done))))
    ((first | (go_at_call 120; refine (nodesI _ _ _ _ _ _ I _ h1 h2).mono ?_; rintro e w1 ⟨rfl, hb1⟩) | (go_at_call 102; refine (inI _ _ _ _).mono ?_; rintro e w2 ⟨rfl, rfl⟩)))
  go_wp2
  go_ret
  have hw : IntKind.i64.wrap (nodes I - 1) = nodes I - 1 := by rw [IntKind.wrap_i64]; omega
  exact ⟨by show Ending.returned (.bool (inB x (I.nV : Int) (IntKind.i64.wrap (nodes I - 1)))) = _; rw [hw]; rfl, below_then (by go_grown) hb1⟩
set_option maxHeartbeats 1600000 in
set_option maxRecDepth 100000 in
theorem stopS (a1 a2 a3 : Option Addr) (c1 c2 c3 : Nat) (I : In) (x : Int) (w : World) (h1 : I.nV ≤ 1048576) (h2 : I.nQ ≤ 1048576) :
    Calls Tryz.prog 65 #[.agg #[.slice a1 I.nV c1, .slice a2 I.nQ c2, .slice a3 I.nR c3], .int .i64 x] w fun e w' => e = .returned (.bool (stopB I x)) ∧ Below w.heap.size w w' := by
  have nb := nodes_bd I h1 h2
  go_enter Tryz.func65, Tryz.ntmps65
  go_wp2_with fail
  go_region_held3 (fun w' => w'.cell? ⟨w.heap.size, 0, none⟩ = some (.slice a1 I.nV c1) ∧ w'.cell? ⟨w.heap.size, 1, none⟩ = some (.slice a2 I.nQ c2) ∧ w'.cell? ⟨w.heap.size, 2, none⟩ = some (.slice a3 I.nR c3))
    (first | go_keep | ((repeat' constructor) <;> exact cell_keep hb1 (by first | assumption | (simp [*]; done))))
    ((first | (go_at_call 85; refine (nodesS _ _ _ _ _ _ I _ h1 h2).mono ?_; rintro e w1 ⟨rfl, hb1⟩) | (go_at_call 37; refine (inS _ _ _ _).mono ?_; rintro e w2 ⟨rfl, rfl⟩)))
  go_wp2
  go_ret
  have hw : IntKind.i64.wrap (nodes I - 1) = nodes I - 1 := by rw [IntKind.wrap_i64]; omega
  exact ⟨by show Ending.returned (.bool (inB x (I.nV : Int) (IntKind.i64.wrap (nodes I - 1)))) = _; rw [hw]; rfl, below_then (by go_grown) hb1⟩
set_option maxHeartbeats 1600000 in
set_option maxRecDepth 100000 in
theorem tripI (a1 a2 a3 : Option Addr) (c1 c2 c3 : Nat) (I : In) (v : Int) (w : World) (h : InAt w a1 a2 a3 I) (h1 : I.nV ≤ 1048576) (h2 : I.nQ ≤ 1048576) (h3 : I.nR ≤ 1048576) :
    Calls Tryz.prog 49 #[.agg #[.slice a1 I.nV c1, .slice a2 I.nQ c2, .slice a3 I.nR c3], .int .i64 v] w fun e w' => e = .returned (.bool (tripB I v)) ∧ Below w.heap.size w w' := by
  have H := Hid.mk h
  clear h
  go_enter Tryz.func49, Tryz.ntmps49
  go_wp2_with (first | (go_at_call 102; refine (inI _ _ _ _).mono ?_; rintro e w' ⟨rfl, rfl⟩) | (go_at_call 104; refine (Valid.validI a1 a2 a3 c1 c2 c3 I _ (H.out.below (by go_grown)) h1 h2 h3).mono ?_; rintro e w1 ⟨rfl, hb⟩))
  all_goals (go_ret; refine ⟨ret_bool ?_, ?_⟩)
  all_goals first | (go_grown; done) | (simp [tripB, *]; done) | exact below_then (by go_grown) hb
set_option maxHeartbeats 1600000 in
set_option maxRecDepth 100000 in
theorem standI (a1 a2 a3 b1 b2 b3 : Option Addr) (c1 c2 c3 d1 d2 d3 : Nat) (I : In) (v : Int) (S : St) (w : World) (h1 : I.nV ≤ 1048576) (h2 : I.nQ ≤ 1048576) :
    Calls Tryz.prog 167 #[.agg #[.slice a1 I.nV c1, .slice a2 I.nQ c2, .slice a3 I.nR c3], .int .i64 v, .agg #[.int .i64 S.p, .int .i64 S.r, .int .i64 S.d, .int .i64 S.t, .int .i64 S.s, .int .i64 S.l, .slice b1 S.n1 d1, .slice b2 S.n2 d2, .slice b3 S.n3 d3]] w fun e w' => e = .returned (.bool (standB I v S)) ∧ Below w.heap.size w w' := by
  cases hp : (S.p == 0) with
  | true =>
    have hp' : S.p = 0 := by simpa using hp
    go_enter Tryz.func167, Tryz.ntmps167
    go_wp2
    go_ret
    exact ⟨ret_bool (by simp [standB, hp']), by go_grown⟩
  | false =>
    have hp' : ¬ S.p = 0 := by simpa using hp
    go_enter Tryz.func167, Tryz.ntmps167
    go_wp2_with (go_at_call 73; refine (stopI a1 a2 a3 c1 c2 c3 I _ _ h1 h2).mono ?_; rintro e w1 ⟨rfl, hb⟩)
    go_ret
    exact ⟨ret_bool (by simp [standB, hp']), below_then (by go_grown) hb⟩

theorem all_no {n k : Nat} {L : Nat → Int} {lo hi : Int} (hk : k < n) (h : inB (L k) lo hi = false) : allIn n L lo hi = false := allB_false (f := fun i => inB (L i) lo hi) hk h
set_option maxHeartbeats 1600000 in
set_option maxRecDepth 100000 in
theorem listI (a : Option Addr) (n c : Nat) (L : Nat → Int) (m lo hi : Int) (w : World) (hs : NumsAt w a n L) (hn : n ≤ 1048576) :
    Calls Tryz.prog 168 #[.slice a n c, .int .i64 m, .int .i64 lo, .int .i64 hi] w fun e w' => e = .returned (.bool (listB n L m lo hi)) ∧ Below w.heap.size w w' := by
  have HS := Hid.mk hs
  clear hs
  cases hm : ((n : Int) == m) with
  | false =>
    go_enter Tryz.func168, Tryz.ntmps168
    go_wp2
    go_ret
    exact ⟨ret_bool (by simp [listB, hm]), by go_grown⟩
  | true =>
    have hl : Hid (listB n L m lo hi = allIn n L lo hi) := by unfold Hid listB; rw [hm]; rfl
    obtain rfl : (n : Int) = m := by simpa using hm
    clear hm
    go_enter Tryz.func168, Tryz.ntmps168
    go_wp2
    go_loopw [17] (fun i wr => ∃ k : Nat, k ≤ n ∧ i = .int .i64 k ∧ Hid (Below w.heap.size w wr) ∧ Hid (allIn k L lo hi = true)) (fun i _ => n - (intOf i).toNat)
    case atStart => exact ⟨0, Nat.zero_le _, rfl, Below.refl _ _, rfl⟩
    case round =>
      obtain ⟨k, hk, rfl, hb, ha⟩ := hrel
      by_cases hlt : k < n
      · obtain ⟨b, off, rfl, c0⟩ := NumsAt.at (HS.out.below hb.out) hlt
        have k0 : (0 : Int) ≤ (k : Int) := by omega
        have k1 : (k : Int) < (n : Int) := by omega
        cases hg : inB (L k) lo hi with
        | false =>
          have hv := Hid.mk (hl.out.trans (all_no hlt hg))
          go_wp2_with (go_at_call 102; refine (inI _ _ _ _).mono ?_; rintro e w' ⟨rfl, rfl⟩)
          go_ret
          exact ⟨ret_bool hv.out.symm, hb.out⟩
        | true =>
          have ha' : Hid (allIn (k + 1) L lo hi = true) := allB_succ ha.out hg
          go_wp2_with (go_at_call 102; refine (inI _ _ _ _).mono ?_; rintro e w' ⟨rfl, rfl⟩)
          exact ⟨⟨k + 1, by omega, by go_num, hb, ha'⟩, by simp [intOf]; omega⟩
      · obtain rfl : n = k := by omega
        go_wp2
        go_ret
        exact ⟨ret_bool (by rw [hl.out, ha.out]), hb.out⟩
set_option maxHeartbeats 1600000 in
set_option maxRecDepth 100000 in
theorem allS (a : Option Addr) (n c : Nat) (L : Nat → Int) (lo hi : Int) (w : World) (hs : NumsAt w a n L) (hn : n ≤ 1048576) :
    Calls Tryz.prog 114 #[.slice a n c, .int .i64 lo, .int .i64 hi] w fun e w' => e = .returned (.bool (allIn n L lo hi)) ∧ Below w.heap.size w w' := by
  have HS := Hid.mk hs
  clear hs
  go_enter Tryz.func114, Tryz.ntmps114
  go_wp2
  go_loopw [7] (fun i wr => ∃ k : Nat, k ≤ n ∧ i = .int .i64 k ∧ Hid (Below w.heap.size w wr) ∧ Hid (allIn k L lo hi = true)) (fun i _ => n - (intOf i).toNat)
  case atStart => exact ⟨0, Nat.zero_le _, rfl, Below.refl _ _, rfl⟩
  case round =>
    obtain ⟨k, hk, rfl, hb, ha⟩ := hrel
    by_cases hlt : k < n
    · obtain ⟨b, off, rfl, c0⟩ := NumsAt.at (HS.out.below hb.out) hlt
      have k0 : (0 : Int) ≤ (k : Int) := by omega
      have k1 : (k : Int) < (n : Int) := by omega
      cases hg : inB (L k) lo hi with
      | false =>
        have hv := Hid.mk (all_no hlt hg)
        go_wp2_with (go_at_call 37; refine (inS _ _ _ _).mono ?_; rintro e w' ⟨rfl, rfl⟩)
        go_ret
        exact ⟨ret_bool hv.out.symm, hb.out⟩
      | true =>
        have ha' : Hid (allIn (k + 1) L lo hi = true) := allB_succ ha.out hg
        go_wp2_with (go_at_call 37; refine (inS _ _ _ _).mono ?_; rintro e w' ⟨rfl, rfl⟩)
        exact ⟨⟨k + 1, by omega, by go_num, hb, ha'⟩, by simp [intOf]; omega⟩
    · obtain rfl : n = k := by omega
      go_wp2
      go_ret
      exact ⟨ret_bool ha.out.symm, hb.out⟩
end Go.Proofs.YtgooegcmgejfpaaGreatDoor.StV
namespace Go.Proofs.YtgooegcmgejfpaaGreatDoor.Mac
open Go Go.RowKit Go.Proofs.YtgooegcmgejfpaaGreatDoor.Mem
open Go.Proofs.YtgooegcmgejfpaaGreatDoor.Valid (inB nodes nodes_bd)
open Go.Proofs.YtgooegcmgejfpaaGreatDoor.StV (stopB stopI stopS)
set_option linter.unusedVariables false
set_option linter.unusedSimpArgs false
attribute [local go_sem ↓] Go.wp_at_zero Go.wp_at_succ

/-- The request of a stop node, -1 elsewhere. -/
def reqOf (I : In) (n : Int) : Int := if stopB I n then (n - I.nV) / 2 else -1
theorem stop_bd {I : In} {n : Int} (h : stopB I n = true) : (I.nV : Int) ≤ n ∧ n ≤ nodes I - 1 ∧ 0 ≤ (n - I.nV) / 2 ∧ (n - I.nV) / 2 < I.nQ := by
  have h1 : (I.nV : Int) ≤ n ∧ n ≤ nodes I - 1 := by simpa [stopB, inB] using h
  unfold nodes at h1 ⊢
  omega
set_option maxHeartbeats 1600000 in
theorem stopOfI (b1 b2 b3 : Option Addr) (d1 d2 d3 : Nat) (I : In) (n : Int) (w : World) (h1 : I.nV ≤ 64) (h2 : I.nQ ≤ 1000) (hs : stopB I n = true) :
    Calls Tryz.prog 122 #[.agg #[.slice b1 I.nV d1, .slice b2 I.nQ d2, .slice b3 I.nR d3], .int .i64 n] w fun e w' => e = .returned (.tuple #[.int .i64 ((n - I.nV) / 2), .bool ((n - I.nV) % 2 == 1)]) ∧ Below w.heap.size w w' := by
  obtain ⟨g1, g2, g3, g4⟩ := stop_bd hs
  have hn : nodes I ≤ 3000 := by unfold nodes; omega
  obtain ⟨k, hk⟩ : ∃ k : Nat, n - I.nV = (k : Int) := ⟨(n - I.nV).toNat, by omega⟩
  have hw : IntKind.i64.wrap (n - (I.nV : Int)) = (k : Int) := by rw [IntKind.wrap_i64]; omega
  rw [hk]
  have k1 : k ≤ 3000 := by omega
  clear hs g1 g2 g3 g4 hk hn
  go_enter Tryz.func122, Tryz.ntmps122
  go_wp2
  go_ret2
  exact ⟨rfl, by go_grown⟩
set_option maxHeartbeats 1600000 in
set_option maxRecDepth 100000 in
theorem requestI (b1 b2 b3 : Option Addr) (d1 d2 d3 : Nat) (I : In) (v n : Int) (w : World) (h1 : I.nV ≤ 64) (h2 : I.nQ ≤ 1000) :
    Calls Tryz.prog 164 #[.agg #[.slice b1 I.nV d1, .slice b2 I.nQ d2, .slice b3 I.nR d3, .int .i64 v], .int .i64 n] w fun e w' => e = .returned (.int .i64 (reqOf I n)) ∧ Below w.heap.size w w' := by
  unfold reqOf
  cases hs : stopB I n with
  | false =>
    go_enter Tryz.func164, Tryz.ntmps164
    go_wp2_with fail
    refine (stopI b1 b2 b3 d1 d2 d3 I n _ (by omega) (by omega)).mono ?_
    rintro e w1 ⟨rfl, hb⟩
    have HB := Hid.mk (below_then (w := w) (by go_grown) hb)
    clear hb
    rw [hs]
    go_wp2
    go_ret
    exact ⟨rfl, HB.out⟩
  | true =>
    go_enter Tryz.func164, Tryz.ntmps164
    go_wp2_with fail
    refine (stopI b1 b2 b3 d1 d2 d3 I n _ (by omega) (by omega)).mono ?_
    rintro e w1 ⟨rfl, hb⟩
    have HB := Hid.mk (below_then (w := w) (by go_grown) hb)
    have A0 := Hid.mk (blk_below (blk_new w _) hb)
    clear hb
    rw [hs]
    have x0 := blk_cell A0.out 0
    have x1 := blk_cell A0.out 1
    have x2 := blk_cell A0.out 2
    simp only [List.getElem?_toArray, List.getElem?_cons_zero, List.getElem?_cons_succ] at x0 x1 x2
    go_wp2_with fail
    clear x0 x1 x2
    refine (stopOfI b1 b2 b3 d1 d2 d3 I n _ h1 h2 hs).mono ?_
    rintro e w2 ⟨rfl, hb⟩
    have HB2 := Hid.mk (below_then HB.out hb)
    clear hb
    go_wp2
    go_ret
    exact ⟨rfl, HB2.out⟩
/-- A frame that has failed. -/
def failC (p u : Int) (M : Nat) (q nx : Int) : Array Value := #[.int .i64 p, .int .i64 u, .int .i64 0, .int .i64 0, .int .i64 0, .int .i64 0, .slice none 0 0, .slice none 0 0, .slice none 0 0, .pointer (some ⟨M, 0, none⟩), .int .i64 q, .int .i64 nx]
set_option maxHeartbeats 1600000 in
set_option maxRecDepth 100000 in
theorem failI (B F : Nat) (f : Fr) (u : Int) (w : World) (h : w.heap[F]? = some (.cells (frC f) 93)) (bF : B ≤ F) (gR gS : Nat) :
    Calls Tryz.prog 125 #[.pointer (some ⟨F, 0, none⟩), .int .i64 u] w fun e w' => (∃ v, e = .returned v) ∧ w'.heap[F]? = some (.cells (failC f.p u f.M f.q f.nx) 93) ∧ Oth B F gR gS w w' := by
  have H := Hid.mk h
  have y0 := blk_cell h 0
  have y1 := blk_cell h 1
  have y2 := blk_cell h 2
  have y3 := blk_cell h 3
  have y4 := blk_cell h 4
  have y5 := blk_cell h 5
  have y6 := blk_cell h 6
  have y7 := blk_cell h 7
  have y8 := blk_cell h 8
  have z0 := blk_unfrozen h 0
  have z1 := blk_unfrozen h 1
  have z2 := blk_unfrozen h 2
  have z3 := blk_unfrozen h 3
  have z4 := blk_unfrozen h 4
  have z5 := blk_unfrozen h 5
  have z6 := blk_unfrozen h 6
  have z7 := blk_unfrozen h 7
  have z8 := blk_unfrozen h 8
  simp only [frC, List.getElem?_toArray, List.getElem?_cons_zero, List.getElem?_cons_succ] at y0 y1 y2 y3 y4 y5 y6 y7 y8
  clear h
  go_enter Tryz.func125, Tryz.ntmps125
  go_wp2
  go_end0
  clear y0 y1 y2 y3 y4 y5 y6 y7 y8 z0 z1 z2 z3 z4 z5 z6 z7 z8
  refine ⟨⟨_, rfl⟩, ?_, ?_⟩
  · have := blk_set (blk_set (blk_set (blk_set (blk_set (blk_set (blk_set (blk_set (blk_set H.out 0 (.int .i64 f.p)) 1 (.int .i64 u)) 2 (.int .i64 0)) 3 (.int .i64 0)) 4 (.int .i64 0)) 5 (.int .i64 0)) 6 (.slice none 0 0)) 7 (.slice none 0 0)) 8 (.slice none 0 0)
    simpa [frC, failC] using this
  · exact ((((((((Oth.refl B F gR gS w).set (p := ⟨F, 0, none⟩) bF (Or.inl rfl) _).set (p := ⟨F, 1, none⟩) bF (Or.inl rfl) _).set (p := ⟨F, 2, none⟩) bF (Or.inl rfl) _).set (p := ⟨F, 3, none⟩) bF (Or.inl rfl) _).set (p := ⟨F, 4, none⟩) bF (Or.inl rfl) _).set (p := ⟨F, 5, none⟩) bF (Or.inl rfl) _).set (p := ⟨F, 6, none⟩) bF (Or.inl rfl) _).set (p := ⟨F, 7, none⟩) bF (Or.inl rfl) _ |>.set (p := ⟨F, 8, none⟩) bF (Or.inl rfl) _
end Go.Proofs.YtgooegcmgejfpaaGreatDoor.Mac
namespace Go.Proofs.YtgooegcmgejfpaaGreatDoor.Mac
open Go Go.RowKit Go.Proofs.YtgooegcmgejfpaaGreatDoor.Mem
open Go.Proofs.YtgooegcmgejfpaaGreatDoor.Arith (cl cl_bd sadd smul addS mulS addI mulI ret_int)
set_option linter.unusedVariables false
set_option linter.unusedSimpArgs false
attribute [local go_sem ↓] Go.wp_at_zero Go.wp_at_succ

/-- The lists that a block works on, and the block. -/
structure Mst (w : World) (E : En) (B : Nat → Is) (n : Nat) (bl : Option Addr) (R S : Int) (ar al : Option Addr) (nr ns : Nat) (r s : List Int) : Prop where
  hr : Li w ar r
  hs : Li w al s
  hnr : nr = r.length
  hns : ns = s.length
  lr : nr ≤ 1000
  ls : ns ≤ 100000
  Br : Bd r
  Bs : Bd s
  hR : (nr : Int) = R
  hS : (ns : Int) = S * E.nQ
  S1 : S ≤ 100
  hE : EnOk E
  hbl : SliceAt w bl n 4 (fun i => (B i).cells)
  hn : n ≤ 16384
theorem Mst.below {w w' : World} {E : En} {B : Nat → Is} {n : Nat} {bl : Option Addr} {R S : Int} {ar al : Option Addr} {nr ns : Nat} {r s : List Int} (h : Mst w E B n bl R S ar al nr ns r s) (hb : Below w.heap.size w w') : Mst w' E B n bl R S ar al nr ns r s :=
  ⟨h.hr.below hb, h.hs.below hb, h.hnr, h.hns, h.lr, h.ls, h.Br, h.Bs, h.hR, h.hS, h.S1, h.hE, h.hbl.below hb, h.hn⟩

theorem insVal (E : En) (ar al : Option Addr) (cr cs nr ns : Nat) (r s : List Int) (u : Int) (w : World) (hr : Li w ar r) (hs : Li w al s) (hnr : nr = r.length) (hns : ns = s.length) (lr : nr ≤ 1000) (ls : ns ≤ 100000) (Br : Bd r) (Bs : Bd s) (hE : EnOk E) (R S k n : Int) (hR : (nr : Int) = R) (hS : (ns : Int) = S * E.nQ) (S1 : S ≤ 100) (p a b c : Int) (hok : OkI R S k n ⟨p, a, b, c⟩) (hp : p ≤ 14 ∨ p = 20) :
    Calls Tryz.prog 97 #[.agg #[.int .i64 p, .int .i64 a, .int .i64 b, .int .i64 c], .agg #[.slice ar nr cr, .slice al ns cs, .int .i64 E.tags, .int .i64 E.skills, .int .i64 E.q, .int .i64 (E.nQ : Int), .int .i64 u]] w fun e w' => e = .returned (.int .i64 (val E ⟨p, a, b, c⟩ r s)) ∧ Below w.heap.size w w' := by
  have p0 : 1 ≤ p := hok.p0
  have p1 : p ≤ 20 := hok.p1
  have hreg : 2 ≤ p ∧ p ≤ 12 ∨ p = 19 → 0 ≤ b ∧ b ≤ R - 1 := hok.reg
  have htwo : 5 ≤ p ∧ p ≤ 12 → 0 ≤ c ∧ c ≤ R - 1 := hok.two
  have htag : p = 13 ∨ p = 14 → 0 ≤ b ∧ b ≤ 15 := hok.tag
  have hlod : p = 20 → 0 ≤ b ∧ b ≤ S - 1 := hok.lod
  by_cases e1 : p = 1
  · subst e1
    exact (v1 E ar al cr cs nr ns r s u w hr hs hnr hns lr ls Br Bs hE a b c).mono fun e w' h => h
  by_cases e13 : p = 13
  · subst e13
    exact (v13 E ar al cr cs nr ns r s u w hr hs hnr hns lr ls Br Bs hE a b c (by omega) (by omega)).mono fun e w' h => h
  by_cases e14 : p = 14
  · subst e14
    exact (v14 E ar al cr cs nr ns r s u w hr hs hnr hns lr ls Br Bs hE a b c (by omega) (by omega)).mono fun e w' h => h
  by_cases e20 : p = 20
  · subst e20
    exact (v20 E ar al cr cs nr ns r s u w hr hs hnr hns lr ls Br Bs hE a b c S hS S1 (by omega) (by omega)).mono fun e w' h => h
  obtain ⟨m, rfl⟩ : ∃ m : Nat, b = (m : Int) := ⟨b.toNat, by omega⟩
  by_cases e2 : p = 2
  · subst e2
    exact (v2 E ar al cr cs nr ns r s u w hr hs hnr hns lr ls Br Bs hE a m (by omega) c).mono fun e w' h => h
  by_cases e3 : p = 3
  · subst e3
    exact (v3 E ar al cr cs nr ns r s u w hr hs hnr hns lr ls Br Bs hE a m (by omega) c).mono fun e w' h => h
  by_cases e4 : p = 4
  · subst e4
    exact (v4 E ar al cr cs nr ns r s u w hr hs hnr hns lr ls Br Bs hE a m (by omega) c).mono fun e w' h => h
  obtain ⟨m', rfl⟩ : ∃ m : Nat, c = (m : Int) := ⟨c.toNat, by omega⟩
  by_cases e11 : p = 11
  · subst e11
    exact (v11 E ar al cr cs nr ns r s u w hr hs hnr hns lr ls Br Bs hE a m m' (by omega) (by omega)).mono fun e w' h => h
  by_cases e12 : p = 12
  · subst e12
    exact (v12 E ar al cr cs nr ns r s u w hr hs hnr hns lr ls Br Bs hE a m m' (by omega) (by omega)).mono fun e w' h => h
  refine (vbin E ar al cr cs nr ns r s u w hr hs hnr hns lr ls Br Bs hE a p (by omega) (by omega) m m' (by omega) (by omega)).mono fun e w' h => ⟨h.1.trans (ret_int ?_), h.2⟩
  have : p = 5 ∨ p = 6 ∨ p = 7 ∨ p = 8 ∨ p = 9 ∨ p = 10 := by omega
  rcases this with rfl | rfl | rfl | rfl | rfl | rfl <;> simp [val, gt_nat]

/-- A slice is the one that was, or lies in new memory. -/
def Nw (w : World) (a a' : Option Addr) : Prop := a' = a ∨ ∀ b, a' = some b → w.heap.size ≤ b.block
theorem Nw.refl (w : World) (a : Option Addr) : Nw w a a := Or.inl rfl
theorem Nw.trans {w w1 : World} {a a1 a2 : Option Addr} (h : Nw w a a1) (k : Nw w1 a1 a2) (hb : w.heap.size ≤ w1.heap.size) : Nw w a a2 := by
  rcases k with rfl | k
  · exact h
  · exact Or.inr fun b hb' => Nat.le_trans hb (k b hb')
/-- A slice of n does not lie in block G. -/
def Far (G : Nat) (a : Option Addr) (n : Nat) : Prop := n = 0 ∨ ∀ b, a = some b → b.block ≠ G
theorem Far.nw {w : World} {G : Nat} {a a' : Option Addr} {n : Nat} (h : Far G a n) (k : Nw w a a') (hG : G < w.heap.size) : Far G a' n := by
  rcases k with rfl | k
  · exact h
  · exact Or.inr fun b hb => by have := k b hb; omega
theorem Li.far {w : World} {G : Nat} {a : Option Addr} {l : List Int} (h : Li w a l) (hG : w.heap.size ≤ G) : Far G a l.length := by
  by_cases h0 : l.length = 0
  · exact Or.inl h0
  · obtain ⟨b, off, rfl, hc⟩ := h.at (i := 0) (by omega)
    have := lt_of_cell hc
    exact Or.inr fun b' hb' => by cases hb'; show b ≠ G; omega
theorem Li.set {w : World} {G i : Nat} {a : Option Addr} {l : List Int} {v : Value} (h : Li w a l) (hf : Far G a l.length) : Li (w.setCell ⟨G, i, none⟩ v) a l := by
  rcases h with h | ⟨b, off, rfl, h⟩
  · exact Or.inl h
  · rcases hf with hf | hf
    · exact Or.inl hf
    · exact Or.inr ⟨b, off, rfl, fun j hj => rangeAt_set_other (h j hj) (fun e => hf _ rfl e.symm) _⟩
theorem exec_len {E : En} {B : Nat → Is} {n : Nat} (f : Nat) : ∀ (k : Nat) (r s : List Int), (exec E B n f k r s).1.length = r.length ∧ (exec E B n f k r s).2.1.length = s.length := by
  induction f with
  | zero => intro k r s; exact ⟨rfl, rfl⟩
  | succ f ih =>
    intro k r s
    rw [exec]
    repeat' split
    all_goals first | exact ⟨rfl, rfl⟩ | exact ih _ _ _ | (have := ih (k + 1) r (s.set ((B k).a * E.nQ + E.q).toNat (gt r (B k).b)); rw [List.length_set] at this; exact this) | (have := ih (k + 1) (r.set (B k).a.toNat (val E (B k) r s)) s; rw [List.length_set] at this; exact this)
/-- What is left behind a block. -/
def ExPost (E : En) (nr ns cr : Nat) (ar al : Option Addr) (out : List Int × List Int × Int) (w : World) (e : Ending) (w' : World) : Prop :=
  ∃ ar' al' cr' cs', e = .returned (.agg #[.slice ar' nr cr', .slice al' ns cs', .int .i64 E.tags, .int .i64 E.skills, .int .i64 E.q, .int .i64 (E.nQ : Int), .int .i64 out.2.2]) ∧ Li w' ar' out.1 ∧ Li w' al' out.2.1 ∧ Nw w ar ar' ∧ Nw w al al' ∧ Below w.heap.size w w' ∧ (nr ≤ cr → nr ≤ cr')
/-- What the recursion gives with fuel f. -/
def Rec (E : En) (B : Nat → Is) (n : Nat) (bl : Option Addr) (cb : Nat) (R S : Int) (nr ns f : Nat) : Prop :=
  ∀ (k : Nat) (r s : List Int) (ar al : Option Addr) (cr cs : Nat) (w : World), n - k ≤ f → Mst w E B n bl R S ar al nr ns r s →
    Calls Tryz.prog 42 #[.slice bl n cb, .int .i64 (k : Int), .agg #[.slice ar nr cr, .slice al ns cs, .int .i64 E.tags, .int .i64 E.skills, .int .i64 E.q, .int .i64 (E.nQ : Int), .int .i64 (-1)]] w (ExPost E nr ns cr ar al (exec E B n f k r s) w)
end Go.Proofs.YtgooegcmgejfpaaGreatDoor.Mac
