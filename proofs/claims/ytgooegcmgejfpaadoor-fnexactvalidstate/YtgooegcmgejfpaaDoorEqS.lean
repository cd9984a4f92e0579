import Derived.Test.YtgooegcmgejfpaaDoorMemS
import Derived.Test.YtgooegcmgejfpaaDoorKit
import Derived.Deep.DrawnRows
namespace Go.Proofs.YtgooegcmgejfpaaDoor.Eq
open Go Go.RowKit Go.Proofs.YtgooegcmgejfpaaDoor.Mem
set_option linter.unusedVariables false
attribute [local go_sem ↓] Go.wp_at_zero Go.wp_at_succ

set_option maxHeartbeats 1600000 in
set_option maxRecDepth 100000 in
theorem eqInt64S (a a' : Option Addr) (n cap cap' : Nat) (V : Nat → Int) (w : World) (hs : NumsAt w a n V) (hs' : NumsAt w a' n V) (hn : n ≤ 1048576) :
    Calls Tryd.prog 40 #[.slice a n cap, .slice a' n cap'] w fun e w' => e = .returned (.bool true) ∧ Below w.heap.size w w' := by
  go_enter Tryd.func40, Tryd.ntmps40
  have HS := Hid.mk hs
  have HS' := Hid.mk hs'
  clear hs hs'
  go_wp2
  go_loopw [5] (fun i wr => ∃ k : Nat, k ≤ n ∧ i = .int .i64 k ∧ Hid (Below w.heap.size w wr)) (fun i _ => n - (intOf i).toNat)
  case atStart => exact ⟨0, Nat.zero_le _, rfl, Below.refl _ _⟩
  case round =>
    obtain ⟨k, hk, rfl, hb⟩ := hrel
    by_cases hlt : k < n
    · obtain ⟨b, off, rfl, c0⟩ := NumsAt.at (HS.out.below hb.out) hlt
      obtain ⟨b', off', rfl, e0⟩ := NumsAt.at (HS'.out.below hb.out) hlt
      have k0 : (0 : Int) ≤ (k : Int) := by omega
      have k1 : (k : Int) < (n : Int) := by omega
      go_wp2_with fail
      go_quiet (fail)
      go_wp2
      exact ⟨⟨k + 1, by omega, by go_num, by first | exact hb | exact Hid.mk hb.out.drew | exact Hid.mk (below_drewN' hb.out _)⟩, by simp [intOf]; omega⟩
    · go_wp2
      go_ret
      exact ⟨rfl, hb.out⟩

set_option maxHeartbeats 1600000 in
theorem eqState (a1 a2 a3 b1 b2 b3 : Option Addr) (c1 c2 c3 d1 d2 d3 : Nat) (S : St) (w : World) (h : StAt w a1 a2 a3 S) (h' : StAt w b1 b2 b3 S) (h1 : S.n1 ≤ 1048576) (h2 : S.n2 ≤ 1048576) (h3 : S.n3 ≤ 1048576) :
    Calls Tryd.prog 14 #[stV S a1 a2 a3 c1 c2 c3, stV S b1 b2 b3 d1 d2 d3] w fun e w' => e = .returned (.bool true) ∧ Below w.heap.size w w' := by
  have H := Hid.mk h
  have H' := Hid.mk h'
  clear h h'
  unfold stV
  go_enter Tryd.func14, Tryd.ntmps14
  go_wp2_with fail
  have HB0 : Below w.heap.size w ((w.alloc (Obj.cells #[.int .i64 S.p, .int .i64 S.r, .int .i64 S.d, .int .i64 S.t, .int .i64 S.s, .int .i64 S.l, .slice a1 S.n1 c1, .slice a2 S.n2 c2, .slice a3 S.n3 c3] 47)).alloc (Obj.cells #[.int .i64 S.p, .int .i64 S.r, .int .i64 S.d, .int .i64 S.t, .int .i64 S.s, .int .i64 S.l, .slice b1 S.n1 d1, .slice b2 S.n2 d2, .slice b3 S.n3 d3] 47)) := by go_grown
  refine (eqInt64S a1 b1 S.n1 c1 d1 S.L1 _ (H.out.s1.below HB0) (H'.out.s1.below HB0) h1).mono ?_
  rintro e w1 ⟨rfl, hb1⟩
  have A0 := Hid.mk (blk_below (blk_alloc (blk_new w _) _) hb1)
  have A1 := Hid.mk (blk_below (blk_new1 w _ _) hb1)
  have HB1 := Hid.mk (below_then HB0 hb1)
  clear hb1 HB0
  have k1 := blk_cell A0.out 7
  have k2 := blk_cell A1.out 7
  simp only [List.getElem?_toArray, List.getElem?_cons_zero, List.getElem?_cons_succ] at k1 k2
  go_wp2_with fail
  clear k1 k2
  refine (eqInt64S a2 b2 S.n2 c2 d2 S.L2 _ (H.out.s2.below HB1.out) (H'.out.s2.below HB1.out) h2).mono ?_
  rintro e w2 ⟨rfl, hb2⟩
  have B0 := Hid.mk (blk_below A0.out hb2)
  have B1 := Hid.mk (blk_below A1.out hb2)
  have HB2 := Hid.mk (below_then HB1.out hb2)
  clear hb2 HB1 A0 A1
  have k1 := blk_cell B0.out 8
  have k2 := blk_cell B1.out 8
  simp only [List.getElem?_toArray, List.getElem?_cons_zero, List.getElem?_cons_succ] at k1 k2
  go_wp2_with fail
  clear k1 k2
  refine (eqInt64S a3 b3 S.n3 c3 d3 S.L3 _ (H.out.s3.below HB2.out) (H'.out.s3.below HB2.out) h3).mono ?_
  rintro e w3 ⟨rfl, hb3⟩
  have HB3 := Hid.mk (below_then HB2.out hb3)
  clear hb3 HB2 B0 B1
  go_wp2
  go_ret
  exact ⟨rfl, HB3.out⟩

def lftS (n : Nat) (l : Int) : Int := if l - n < 0 then -1 else l - n
theorem lftS_bd (n : Nat) (l : Int) (h : ¬ lftS n l < 0) (h1 : l ≤ 1048576) : 0 ≤ lftS n l ∧ lftS n l ≤ 1048576 ∧ (n : Int) ≤ l := by unfold lftS at *; split at * <;> omega
theorem szInt64SG (a : Option Addr) (n cap : Nat) (l : Int) (w : World) (hn : n ≤ 9223372036854775807) (h0 : 0 ≤ l) (h1 : l ≤ 1048576) : Calls Tryd.prog 19 #[.slice a n cap, .int .i64 l] w fun e w' => e = .returned (.int .i64 (lftS n l)) ∧ w' = w := by
  unfold lftS
  by_cases h : l - n < 0
  · rw [if_pos h]
    go_enter Tryd.func19, Tryd.ntmps19
    go_wp2
    go_ret
    exact ⟨rfl, rfl⟩
  · rw [if_neg h]
    go_enter Tryd.func19, Tryd.ntmps19
    go_wp2
    go_ret
    exact ⟨rfl, rfl⟩
theorem szVehicleSG (a : Option Addr) (n cap : Nat) (l : Int) (w : World) (hn : n ≤ 9223372036854775807) (h0 : 0 ≤ l) (h1 : l ≤ 1048576) : Calls Tryd.prog 16 #[.slice a n cap, .int .i64 l] w fun e w' => e = .returned (.int .i64 (lftS n l)) ∧ w' = w := by
  unfold lftS
  by_cases h : l - n < 0
  · rw [if_pos h]
    go_enter Tryd.func16, Tryd.ntmps16
    go_wp2
    go_ret
    exact ⟨rfl, rfl⟩
  · rw [if_neg h]
    go_enter Tryd.func16, Tryd.ntmps16
    go_wp2
    go_ret
    exact ⟨rfl, rfl⟩
theorem szRequestSG (a : Option Addr) (n cap : Nat) (l : Int) (w : World) (hn : n ≤ 9223372036854775807) (h0 : 0 ≤ l) (h1 : l ≤ 1048576) : Calls Tryd.prog 17 #[.slice a n cap, .int .i64 l] w fun e w' => e = .returned (.int .i64 (lftS n l)) ∧ w' = w := by
  unfold lftS
  by_cases h : l - n < 0
  · rw [if_pos h]
    go_enter Tryd.func17, Tryd.ntmps17
    go_wp2
    go_ret
    exact ⟨rfl, rfl⟩
  · rw [if_neg h]
    go_enter Tryd.func17, Tryd.ntmps17
    go_wp2
    go_ret
    exact ⟨rfl, rfl⟩
theorem szRoadSG (a : Option Addr) (n cap : Nat) (l : Int) (w : World) (hn : n ≤ 9223372036854775807) (h0 : 0 ≤ l) (h1 : l ≤ 1048576) : Calls Tryd.prog 18 #[.slice a n cap, .int .i64 l] w fun e w' => e = .returned (.int .i64 (lftS n l)) ∧ w' = w := by
  unfold lftS
  by_cases h : l - n < 0
  · rw [if_pos h]
    go_enter Tryd.func18, Tryd.ntmps18
    go_wp2
    go_ret
    exact ⟨rfl, rfl⟩
  · rw [if_neg h]
    go_enter Tryd.func18, Tryd.ntmps18
    go_wp2
    go_ret
    exact ⟨rfl, rfl⟩
theorem szInsSG (a : Option Addr) (n cap : Nat) (l : Int) (w : World) (hn : n ≤ 9223372036854775807) (h0 : 0 ≤ l) (h1 : l ≤ 1048576) : Calls Tryd.prog 15 #[.slice a n cap, .int .i64 l] w fun e w' => e = .returned (.int .i64 (lftS n l)) ∧ w' = w := by
  unfold lftS
  by_cases h : l - n < 0
  · rw [if_pos h]
    go_enter Tryd.func15, Tryd.ntmps15
    go_wp2
    go_ret
    exact ⟨rfl, rfl⟩
  · rw [if_neg h]
    go_enter Tryd.func15, Tryd.ntmps15
    go_wp2
    go_ret
    exact ⟨rfl, rfl⟩

set_option maxHeartbeats 1600000 in
theorem szStateG (a1 a2 a3 : Option Addr) (c1 c2 c3 n1 n2 n3 : Nat) (x0 x1 x2 x3 x4 x5 : Int) (l : Int) (w : World) (h1 : n1 ≤ 9223372036854775807) (h2 : n2 ≤ 9223372036854775807) (h3 : n3 ≤ 9223372036854775807) (l0 : 0 ≤ l) (l1 : l ≤ 1048576) :
    Calls Tryd.prog 6 #[.agg #[.int .i64 x0, .int .i64 x1, .int .i64 x2, .int .i64 x3, .int .i64 x4, .int .i64 x5, .slice a1 n1 c1, .slice a2 n2 c2, .slice a3 n3 c3], .int .i64 l] w fun e w' => ∃ r : Int, e = .returned (.int .i64 r) ∧ Below w.heap.size w w' ∧ (r < 0 ∨ (0 ≤ r ∧ r ≤ 1048576 ∧ n1 ≤ 1048576 ∧ n2 ≤ 1048576 ∧ n3 ≤ 1048576)) := by
  by_cases g1 : lftS n1 l < 0
  · go_enter Tryd.func6, Tryd.ntmps6
    go_wp2_with (first | (go_at_call 19; refine (szInt64SG _ _ _ _ _ (by assumption) (by omega) (by omega)).mono ?_; rintro e w' ⟨rfl, rfl⟩))
    go_ret
    exact ⟨_, rfl, by go_grown, Or.inl (by omega)⟩
  have b1 := lftS_bd _ _ g1 (by omega)
  by_cases g2 : lftS n2 (lftS n1 l) < 0
  · go_enter Tryd.func6, Tryd.ntmps6
    go_wp2_with (first | (go_at_call 19; refine (szInt64SG _ _ _ _ _ (by assumption) (by omega) (by omega)).mono ?_; rintro e w' ⟨rfl, rfl⟩))
    go_ret
    exact ⟨_, rfl, by go_grown, Or.inl (by omega)⟩
  have b2 := lftS_bd _ _ g2 (by omega)
  by_cases g3 : lftS n3 (lftS n2 (lftS n1 l)) < 0
  all_goals
    go_enter Tryd.func6, Tryd.ntmps6
    go_wp2_with (first | (go_at_call 19; refine (szInt64SG _ _ _ _ _ (by assumption) (by omega) (by omega)).mono ?_; rintro e w' ⟨rfl, rfl⟩))
    go_ret
  · exact ⟨_, rfl, by go_grown, Or.inl (by omega)⟩
  · have b3 := lftS_bd _ _ (show ¬ lftS n3 (lftS n2 (lftS n1 l)) < 0 by omega) (by omega)
    exact ⟨_, rfl, by go_grown, Or.inr (by omega)⟩

set_option maxHeartbeats 1600000 in
theorem szInstG (a1 a2 a3 : Option Addr) (c1 c2 c3 n1 n2 n3 : Nat) (l : Int) (w : World) (h1 : n1 ≤ 9223372036854775807) (h2 : n2 ≤ 9223372036854775807) (h3 : n3 ≤ 9223372036854775807) (l0 : 0 ≤ l) (l1 : l ≤ 1048576) :
    Calls Tryd.prog 5 #[.agg #[.slice a1 n1 c1, .slice a2 n2 c2, .slice a3 n3 c3], .int .i64 l] w fun e w' => ∃ r : Int, e = .returned (.int .i64 r) ∧ Below w.heap.size w w' ∧ (r < 0 ∨ (0 ≤ r ∧ r ≤ 1048576 ∧ n1 ≤ 1048576 ∧ n2 ≤ 1048576 ∧ n3 ≤ 1048576)) := by
  by_cases g1 : lftS n1 l < 0
  · go_enter Tryd.func5, Tryd.ntmps5
    go_wp2_with (first | (go_at_call 16; refine (szVehicleSG _ _ _ _ _ (by assumption) (by omega) (by omega)).mono ?_; rintro e w' ⟨rfl, rfl⟩))
    go_ret
    exact ⟨_, rfl, by go_grown, Or.inl (by omega)⟩
  have b1 := lftS_bd _ _ g1 (by omega)
  by_cases g2 : lftS n2 (lftS n1 l) < 0
  · go_enter Tryd.func5, Tryd.ntmps5
    go_wp2_with (first | (go_at_call 16; refine (szVehicleSG _ _ _ _ _ (by assumption) (by omega) (by omega)).mono ?_; rintro e w' ⟨rfl, rfl⟩) | (go_at_call 17; refine (szRequestSG _ _ _ _ _ (by assumption) (by omega) (by omega)).mono ?_; rintro e w' ⟨rfl, rfl⟩))
    go_ret
    exact ⟨_, rfl, by go_grown, Or.inl (by omega)⟩
  have b2 := lftS_bd _ _ g2 (by omega)
  by_cases g3 : lftS n3 (lftS n2 (lftS n1 l)) < 0
  all_goals
    go_enter Tryd.func5, Tryd.ntmps5
    go_wp2_with (first | (go_at_call 16; refine (szVehicleSG _ _ _ _ _ (by assumption) (by omega) (by omega)).mono ?_; rintro e w' ⟨rfl, rfl⟩) | (go_at_call 17; refine (szRequestSG _ _ _ _ _ (by assumption) (by omega) (by omega)).mono ?_; rintro e w' ⟨rfl, rfl⟩) | (go_at_call 18; refine (szRoadSG _ _ _ _ _ (by assumption) (by omega) (by omega)).mono ?_; rintro e w' ⟨rfl, rfl⟩))
    go_ret
  · exact ⟨_, rfl, by go_grown, Or.inl (by omega)⟩
  · have b3 := lftS_bd _ _ (show ¬ lftS n3 (lftS n2 (lftS n1 l)) < 0 by omega) (by omega)
    exact ⟨_, rfl, by go_grown, Or.inr (by omega)⟩

set_option maxHeartbeats 1600000 in
theorem szCodeG (a1 a2 a3 : Option Addr) (c1 c2 c3 n1 n2 n3 : Nat) (x0 x1 : Int) (l : Int) (w : World) (h1 : n1 ≤ 9223372036854775807) (h2 : n2 ≤ 9223372036854775807) (h3 : n3 ≤ 9223372036854775807) (l0 : 0 ≤ l) (l1 : l ≤ 1048576) :
    Calls Tryd.prog 4 #[.agg #[.int .i64 x0, .int .i64 x1, .slice a1 n1 c1, .slice a2 n2 c2, .slice a3 n3 c3], .int .i64 l] w fun e w' => ∃ r : Int, e = .returned (.int .i64 r) ∧ Below w.heap.size w w' ∧ (r < 0 ∨ (0 ≤ r ∧ r ≤ 1048576 ∧ n1 ≤ 1048576 ∧ n2 ≤ 1048576 ∧ n3 ≤ 1048576)) := by
  by_cases g1 : lftS n1 l < 0
  · go_enter Tryd.func4, Tryd.ntmps4
    go_wp2_with (first | (go_at_call 15; refine (szInsSG _ _ _ _ _ (by assumption) (by omega) (by omega)).mono ?_; rintro e w' ⟨rfl, rfl⟩))
    go_ret
    exact ⟨_, rfl, by go_grown, Or.inl (by omega)⟩
  have b1 := lftS_bd _ _ g1 (by omega)
  by_cases g2 : lftS n2 (lftS n1 l) < 0
  · go_enter Tryd.func4, Tryd.ntmps4
    go_wp2_with (first | (go_at_call 15; refine (szInsSG _ _ _ _ _ (by assumption) (by omega) (by omega)).mono ?_; rintro e w' ⟨rfl, rfl⟩))
    go_ret
    exact ⟨_, rfl, by go_grown, Or.inl (by omega)⟩
  have b2 := lftS_bd _ _ g2 (by omega)
  by_cases g3 : lftS n3 (lftS n2 (lftS n1 l)) < 0
  all_goals
    go_enter Tryd.func4, Tryd.ntmps4
    go_wp2_with (first | (go_at_call 15; refine (szInsSG _ _ _ _ _ (by assumption) (by omega) (by omega)).mono ?_; rintro e w' ⟨rfl, rfl⟩))
    go_ret
  · exact ⟨_, rfl, by go_grown, Or.inl (by omega)⟩
  · have b3 := lftS_bd _ _ (show ¬ lftS n3 (lftS n2 (lftS n1 l)) < 0 by omega) (by omega)
    exact ⟨_, rfl, by go_grown, Or.inr (by omega)⟩
end Go.Proofs.YtgooegcmgejfpaaDoor.Eq
