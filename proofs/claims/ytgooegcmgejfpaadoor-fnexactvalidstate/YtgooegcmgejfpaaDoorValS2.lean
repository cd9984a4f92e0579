import Derived.Test.YtgooegcmgejfpaaDoorValS1
import Derived.Deep.DrawnRows
namespace Go.Proofs.YtgooegcmgejfpaaDoor.StV
open Go Go.RowKit Go.Proofs.YtgooegcmgejfpaaDoor.Mem
open Go.Proofs.YtgooegcmgejfpaaDoor.Valid (inB ret_bool nodes validB inI inS nodes_bd nodesI nodesS)
set_option linter.unusedVariables false
set_option linter.unusedSimpArgs false
attribute [local go_sem ↓] Go.wp_at_zero Go.wp_at_succ

set_option maxHeartbeats 1600000 in
set_option maxRecDepth 100000 in
theorem bareS (a1 a2 a3 : Option Addr) (c1 c2 c3 : Nat) (S : St) (w : World) :
    Calls Tryd.prog 23 #[.agg #[.int .i64 S.p, .int .i64 S.r, .int .i64 S.d, .int .i64 S.t, .int .i64 S.s, .int .i64 S.l, .slice a1 S.n1 c1, .slice a2 S.n2 c2, .slice a3 S.n3 c3]] w fun e w' => e = .returned (.bool (bareB S)) ∧ Below w.heap.size w w' := by
  go_enter Tryd.func23, Tryd.ntmps23
  go_wp2
  all_goals (go_ret; refine ⟨ret_bool ?_, ?_⟩)
  all_goals first | (go_grown; done) | (simp [bareB, *]; done)
set_option maxHeartbeats 1600000 in
set_option maxRecDepth 100000 in
theorem bareI (a1 a2 a3 : Option Addr) (c1 c2 c3 : Nat) (S : St) (w : World) :
    Calls Tryd.prog 54 #[.agg #[.int .i64 S.p, .int .i64 S.r, .int .i64 S.d, .int .i64 S.t, .int .i64 S.s, .int .i64 S.l, .slice a1 S.n1 c1, .slice a2 S.n2 c2, .slice a3 S.n3 c3]] w fun e w' => e = .returned (.bool (bareB S)) ∧ Below w.heap.size w w' := by
  go_enter Tryd.func54, Tryd.ntmps54
  go_wp2
  all_goals (go_ret; refine ⟨ret_bool ?_, ?_⟩)
  all_goals first | (go_grown; done) | (simp [bareB, *]; done)
set_option maxHeartbeats 1600000 in
set_option maxRecDepth 100000 in
theorem deadI (a1 a2 a3 : Option Addr) (c1 c2 c3 : Nat) (S : St) (w : World) :
    Calls Tryd.prog 33 #[.agg #[.int .i64 S.p, .int .i64 S.r, .int .i64 S.d, .int .i64 S.t, .int .i64 S.s, .int .i64 S.l, .slice a1 S.n1 c1, .slice a2 S.n2 c2, .slice a3 S.n3 c3]] w fun e w' => e = .returned (.bool (deadB S)) ∧ Below w.heap.size w w' := by
  cases h1 : (S.p == -1) with
  | false =>
    go_enter Tryd.func33, Tryd.ntmps33
    go_wp2
    go_ret
    exact ⟨ret_bool (by simp only [deadB, h1, Bool.false_and]), by go_grown⟩
  | true =>
    cases h2 : (S.r == -1) with
    | false =>
      go_enter Tryd.func33, Tryd.ntmps33
      go_wp2
      go_ret
      exact ⟨ret_bool (by simp only [deadB, h2, Bool.false_and, Bool.and_false]), by go_grown⟩
    | true =>
      have hd : Hid (deadB S = bareB S) := by unfold Hid deadB; rw [h1, h2]; rfl
      go_enter Tryd.func33, Tryd.ntmps33
      go_wp2_with fail
      refine (bareI a1 a2 a3 c1 c2 c3 S _).mono ?_
      rintro e w1 ⟨rfl, hb⟩
      have hk := Hid.mk (below_then (w := w) (by go_grown) hb)
      clear hb
      go_wp2
      go_ret
      exact ⟨ret_bool hd.out.symm, hk.out⟩
set_option maxHeartbeats 1600000 in
set_option maxRecDepth 100000 in
theorem failI (a1 a2 a3 : Option Addr) (c1 c2 c3 : Nat) (S : St) (w : World) :
    Calls Tryd.prog 34 #[.agg #[.int .i64 S.p, .int .i64 S.r, .int .i64 S.d, .int .i64 S.t, .int .i64 S.s, .int .i64 S.l, .slice a1 S.n1 c1, .slice a2 S.n2 c2, .slice a3 S.n3 c3]] w fun e w' => e = .returned (.bool (failB S)) ∧ Below w.heap.size w w' := by
  go_enter Tryd.func34, Tryd.ntmps34
  go_wp2_with (first | (go_at_call 51; refine (inI _ _ _ _).mono ?_; rintro e w' ⟨rfl, rfl⟩) | (go_at_call 54; refine (bareI a1 a2 a3 c1 c2 c3 S _).mono ?_; rintro e w1 ⟨rfl, hb⟩))
  all_goals (go_ret; refine ⟨ret_bool ?_, ?_⟩)
  all_goals first | (go_grown; done) | (simp [failB, *]; done) | exact below_then (by go_grown) hb
set_option maxHeartbeats 1600000 in
set_option maxRecDepth 100000 in
theorem stopI (a1 a2 a3 : Option Addr) (c1 c2 c3 : Nat) (I : In) (x : Int) (w : World) (h1 : I.nV ≤ 1048576) (h2 : I.nQ ≤ 1048576) :
    Calls Tryd.prog 69 #[.agg #[.slice a1 I.nV c1, .slice a2 I.nQ c2, .slice a3 I.nR c3], .int .i64 x] w fun e w' => e = .returned (.bool (stopB I x)) ∧ Below w.heap.size w w' := by
  have nb := nodes_bd I h1 h2
  go_enter Tryd.func69, Tryd.ntmps69
  go_wp2_with fail
  go_region_held3 (fun w' => w'.cell? ⟨w.heap.size, 0, none⟩ = some (.slice a1 I.nV c1) ∧ w'.cell? ⟨w.heap.size, 1, none⟩ = some (.slice a2 I.nQ c2) ∧ w'.cell? ⟨w.heap.size, 2, none⟩ = some (.slice a3 I.nR c3))
    (first | go_keep | ((repeat' constructor) <;> exact cell_keep hb1 (by first | assumption | (simp [*]; done))))
    ((first | (go_at_call 68; refine (nodesI _ _ _ _ _ _ I _ h1 h2).mono ?_; rintro e w1 ⟨rfl, hb1⟩) | (go_at_call 51; refine (inI _ _ _ _).mono ?_; rintro e w2 ⟨rfl, rfl⟩)))
  go_wp2
  go_ret
  have hw : IntKind.i64.wrap (nodes I - 1) = nodes I - 1 := by rw [IntKind.wrap_i64]; omega
  exact ⟨by show Ending.returned (.bool (inB x (I.nV : Int) (IntKind.i64.wrap (nodes I - 1)))) = _; rw [hw]; rfl, below_then (by go_grown) hb1⟩
set_option maxHeartbeats 1600000 in
set_option maxRecDepth 100000 in
theorem stopS (a1 a2 a3 : Option Addr) (c1 c2 c3 : Nat) (I : In) (x : Int) (w : World) (h1 : I.nV ≤ 1048576) (h2 : I.nQ ≤ 1048576) :
    Calls Tryd.prog 24 #[.agg #[.slice a1 I.nV c1, .slice a2 I.nQ c2, .slice a3 I.nR c3], .int .i64 x] w fun e w' => e = .returned (.bool (stopB I x)) ∧ Below w.heap.size w w' := by
  have nb := nodes_bd I h1 h2
  go_enter Tryd.func24, Tryd.ntmps24
  go_wp2_with fail
  go_region_held3 (fun w' => w'.cell? ⟨w.heap.size, 0, none⟩ = some (.slice a1 I.nV c1) ∧ w'.cell? ⟨w.heap.size, 1, none⟩ = some (.slice a2 I.nQ c2) ∧ w'.cell? ⟨w.heap.size, 2, none⟩ = some (.slice a3 I.nR c3))
    (first | go_keep | ((repeat' constructor) <;> exact cell_keep hb1 (by first | assumption | (simp [*]; done))))
    ((first | (go_at_call 45; refine (nodesS _ _ _ _ _ _ I _ h1 h2).mono ?_; rintro e w1 ⟨rfl, hb1⟩) | (go_at_call 22; refine (inS _ _ _ _).mono ?_; rintro e w2 ⟨rfl, rfl⟩)))
  go_wp2
  go_ret
  have hw : IntKind.i64.wrap (nodes I - 1) = nodes I - 1 := by rw [IntKind.wrap_i64]; omega
  exact ⟨by show Ending.returned (.bool (inB x (I.nV : Int) (IntKind.i64.wrap (nodes I - 1)))) = _; rw [hw]; rfl, below_then (by go_grown) hb1⟩
set_option maxHeartbeats 1600000 in
set_option maxRecDepth 100000 in
theorem tripI (a1 a2 a3 : Option Addr) (c1 c2 c3 : Nat) (I : In) (v : Int) (w : World) (h : InAt w a1 a2 a3 I) (h1 : I.nV ≤ 1048576) (h2 : I.nQ ≤ 1048576) (h3 : I.nR ≤ 1048576) :
    Calls Tryd.prog 32 #[.agg #[.slice a1 I.nV c1, .slice a2 I.nQ c2, .slice a3 I.nR c3], .int .i64 v] w fun e w' => e = .returned (.bool (tripB I v)) ∧ Below w.heap.size w w' := by
  have H := Hid.mk h
  clear h
  go_enter Tryd.func32, Tryd.ntmps32
  go_wp2_with (first | (go_at_call 51; refine (inI _ _ _ _).mono ?_; rintro e w' ⟨rfl, rfl⟩) | (go_at_call 53; refine (Valid.validI a1 a2 a3 c1 c2 c3 I _ (H.out.below (by go_grown)) h1 h2 h3).mono ?_; rintro e w1 ⟨rfl, hb⟩))
  all_goals (go_ret; refine ⟨ret_bool ?_, ?_⟩)
  all_goals first | (go_grown; done) | (simp [tripB, *]; done) | exact below_then (by go_grown) hb
set_option maxHeartbeats 1600000 in
set_option maxRecDepth 100000 in
theorem standI (a1 a2 a3 b1 b2 b3 : Option Addr) (c1 c2 c3 d1 d2 d3 : Nat) (I : In) (v : Int) (S : St) (w : World) (h1 : I.nV ≤ 1048576) (h2 : I.nQ ≤ 1048576) :
    Calls Tryd.prog 55 #[.agg #[.slice a1 I.nV c1, .slice a2 I.nQ c2, .slice a3 I.nR c3], .int .i64 v, .agg #[.int .i64 S.p, .int .i64 S.r, .int .i64 S.d, .int .i64 S.t, .int .i64 S.s, .int .i64 S.l, .slice b1 S.n1 d1, .slice b2 S.n2 d2, .slice b3 S.n3 d3]] w fun e w' => e = .returned (.bool (standB I v S)) ∧ Below w.heap.size w w' := by
  cases hp : (S.p == 0) with
  | true =>
    have hp' : S.p = 0 := by simpa using hp
    go_enter Tryd.func55, Tryd.ntmps55
    go_wp2
    go_ret
    exact ⟨ret_bool (by simp [standB, hp']), by go_grown⟩
  | false =>
    have hp' : ¬ S.p = 0 := by simpa using hp
    go_enter Tryd.func55, Tryd.ntmps55
    go_wp2_with (go_at_call 69; refine (stopI a1 a2 a3 c1 c2 c3 I _ _ h1 h2).mono ?_; rintro e w1 ⟨rfl, hb⟩)
    go_ret
    exact ⟨ret_bool (by simp [standB, hp']), below_then (by go_grown) hb⟩

theorem all_no {n k : Nat} {L : Nat → Int} {lo hi : Int} (hk : k < n) (h : inB (L k) lo hi = false) : allIn n L lo hi = false := allB_false (f := fun i => inB (L i) lo hi) hk h
set_option maxHeartbeats 1600000 in
set_option maxRecDepth 100000 in
theorem listI (a : Option Addr) (n c : Nat) (L : Nat → Int) (m lo hi : Int) (w : World) (hs : NumsAt w a n L) (hn : n ≤ 1048576) :
    Calls Tryd.prog 56 #[.slice a n c, .int .i64 m, .int .i64 lo, .int .i64 hi] w fun e w' => e = .returned (.bool (listB n L m lo hi)) ∧ Below w.heap.size w w' := by
  have HS := Hid.mk hs
  clear hs
  cases hm : ((n : Int) == m) with
  | false =>
    go_enter Tryd.func56, Tryd.ntmps56
    go_wp2
    go_ret
    exact ⟨ret_bool (by simp [listB, hm]), by go_grown⟩
  | true =>
    have hl : Hid (listB n L m lo hi = allIn n L lo hi) := by unfold Hid listB; rw [hm]; rfl
    obtain rfl : (n : Int) = m := by simpa using hm
    clear hm
    go_enter Tryd.func56, Tryd.ntmps56
    go_wp2
    go_loopw [17] (fun i wr => ∃ k : Nat, k ≤ n ∧ i = .int .i64 k ∧ Hid (Below w.heap.size w wr) ∧ Hid (allIn k L lo hi = true)) (fun i _ => n - (intOf i).toNat)
    case atStart => exact ⟨0, Nat.zero_le _, rfl, Below.refl _ _, rfl⟩
    case round =>
      obtain ⟨k, hk, rfl, hb, ha⟩ := hrel
      by_cases hlt : k < n
      · obtain ⟨b, off, rfl, c0⟩ := NumsAt.at (HS.out.below hb.out) hlt
        have k0 : (0 : Int) ≤ (k : Int) := by omega
        have k1 : (k : Int) < (n : Int) := by omega
        cases hg : inB (L k) lo hi with
        | false =>
          have hv := Hid.mk (hl.out.trans (all_no hlt hg))
          go_wp2_with (go_at_call 51; refine (inI _ _ _ _).mono ?_; rintro e w' ⟨rfl, rfl⟩)
          go_ret
          exact ⟨ret_bool hv.out.symm, hb.out⟩
        | true =>
          have ha' : Hid (allIn (k + 1) L lo hi = true) := allB_succ ha.out hg
          go_wp2_with (go_at_call 51; refine (inI _ _ _ _).mono ?_; rintro e w' ⟨rfl, rfl⟩)
          exact ⟨⟨k + 1, by omega, by go_num, hb, ha'⟩, by simp [intOf]; omega⟩
      · obtain rfl : n = k := by omega
        go_wp2
        go_ret
        exact ⟨ret_bool (by rw [hl.out, ha.out]), hb.out⟩
set_option maxHeartbeats 1600000 in
set_option maxRecDepth 100000 in
theorem allS (a : Option Addr) (n c : Nat) (L : Nat → Int) (lo hi : Int) (w : World) (hs : NumsAt w a n L) (hn : n ≤ 1048576) :
    Calls Tryd.prog 25 #[.slice a n c, .int .i64 lo, .int .i64 hi] w fun e w' => e = .returned (.bool (allIn n L lo hi)) ∧ Below w.heap.size w w' := by
  have HS := Hid.mk hs
  clear hs
  go_enter Tryd.func25, Tryd.ntmps25
  go_wp2
  go_loopw [7] (fun i wr => ∃ k : Nat, k ≤ n ∧ i = .int .i64 k ∧ Hid (Below w.heap.size w wr) ∧ Hid (allIn k L lo hi = true)) (fun i _ => n - (intOf i).toNat)
  case atStart => exact ⟨0, Nat.zero_le _, rfl, Below.refl _ _, rfl⟩
  case round =>
    obtain ⟨k, hk, rfl, hb, ha⟩ := hrel
    by_cases hlt : k < n
    · obtain ⟨b, off, rfl, c0⟩ := NumsAt.at (HS.out.below hb.out) hlt
      have k0 : (0 : Int) ≤ (k : Int) := by omega
      have k1 : (k : Int) < (n : Int) := by omega
      cases hg : inB (L k) lo hi with
      | false =>
        have hv := Hid.mk (all_no hlt hg)
        go_wp2_with (go_at_call 22; refine (inS _ _ _ _).mono ?_; rintro e w' ⟨rfl, rfl⟩)
        go_ret
        exact ⟨ret_bool hv.out.symm, hb.out⟩
      | true =>
        have ha' : Hid (allIn (k + 1) L lo hi = true) := allB_succ ha.out hg
        go_wp2_with (go_at_call 22; refine (inS _ _ _ _).mono ?_; rintro e w' ⟨rfl, rfl⟩)
        exact ⟨⟨k + 1, by omega, by go_num, hb, ha'⟩, by simp [intOf]; omega⟩
    · obtain rfl : n = k := by omega
      go_wp2
      go_ret
      exact ⟨ret_bool ha.out.symm, hb.out⟩
end Go.Proofs.YtgooegcmgejfpaaDoor.StV
