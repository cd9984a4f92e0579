import Derived.Test.YtgooegcmgejfpaaGreatDoorGr05
import Derived.Test.YtgooegcmgejfpaaGreatDoorGr02
import Derived.Deep.DrawnRows
import Derived.Test.YtgooegcmgejfpaaGreatDoorProg
import Derived.WalkKit
import Derived.WalkSpells
import Derived.WalkLawsBesides
import Derived.Handy
import Derived.Lib.MinMax
import Derived.Laws.BitsLemmas
namespace Go.Proofs.YtgooegcmgejfpaaGreatDoor.Eq
open Go Go.RowKit Go.Proofs.YtgooegcmgejfpaaGreatDoor.Mem
set_option linter.unusedVariables false
attribute [local go_sem ↓] Go.wp_at_zero Go.wp_at_succ

set_option maxHeartbeats 1600000 in
set_option maxRecDepth 100000 in
theorem eqInt64S (a a' : Option Addr) (n cap cap' : Nat) (V : Nat → Int) (w : World) (hs : NumsAt w a n V) (hs' : NumsAt w a' n V) (hn : n ≤ 1048576) :
    Calls Tryz.prog 30 #[.slice a n cap, .slice a' n cap'] w fun e w' => e = .returned (.bool true) ∧ Below w.heap.size w w' := by
  go_enter Tryz.func30, Tryz.ntmps30
  have HS := Hid.mk hs
  have HS' := Hid.mk hs'
  clear hs hs'
  go_wp2
  go_loopw [5] (fun i wr => ∃ k : Nat, k ≤ n ∧ i = .int .i64 k ∧ Hid (Below w.heap.size w wr)) (fun i _ => n - (intOf i).toNat)
  case atStart => exact ⟨0, Nat.zero_le _, rfl, Below.refl _ _⟩
  case round =>
    obtain ⟨k, hk, rfl, hb⟩ := hrel
    by_cases hlt : k < n
    · obtain ⟨b, off, rfl, c0⟩ := NumsAt.at (HS.out.below hb.out) hlt
      obtain ⟨b', off', rfl, e0⟩ := NumsAt.at (HS'.out.below hb.out) hlt
      have k0 : (0 : Int) ≤ (k : Int) := by omega
      have k1 : (k : Int) < (n : Int) := by omega
      go_wp2_with fail
      go_quiet (fail)
      go_wp2
      exact ⟨⟨k + 1, by omega, by go_num, by first | exact hb | exact Hid.mk hb.out.drew | exact Hid.mk (below_drewN' hb.out _)⟩, by simp [intOf]; omega⟩
    · go_wp2
      go_ret
      exact ⟨rfl, hb.out⟩

set_option maxHeartbeats 1600000 in
theorem eqState (a1 a2 a3 b1 b2 b3 : Option Addr) (c1 c2 c3 d1 d2 d3 : Nat) (S : St) (w : World) (h : StAt w a1 a2 a3 S) (h' : StAt w b1 b2 b3 S) (h1 : S.n1 ≤ 1048576) (h2 : S.n2 ≤ 1048576) (h3 : S.n3 ≤ 1048576) :
    Calls Tryz.prog 13 #[stV S a1 a2 a3 c1 c2 c3, stV S b1 b2 b3 d1 d2 d3] w fun e w' => e = .returned (.bool true) ∧ Below w.heap.size w w' := by
  have H := Hid.mk h
  have H' := Hid.mk h'
  clear h h'
  unfold stV
  go_enter Tryz.func13, Tryz.ntmps13
  go_wp2_with fail
  have HB0 : Below w.heap.size w ((w.alloc (Obj.cells #[.int .i64 S.p, .int .i64 S.r, .int .i64 S.d, .int .i64 S.t, .int .i64 S.s, .int .i64 S.l, .slice a1 S.n1 c1, .slice a2 S.n2 c2, .slice a3 S.n3 c3] 34)).alloc (Obj.cells #[.int .i64 S.p, .int .i64 S.r, .int .i64 S.d, .int .i64 S.t, .int .i64 S.s, .int .i64 S.l, .slice b1 S.n1 d1, .slice b2 S.n2 d2, .slice b3 S.n3 d3] 34)) := by go_grown
  refine (eqInt64S a1 b1 S.n1 c1 d1 S.L1 _ (H.out.s1.below HB0) (H'.out.s1.below HB0) h1).mono ?_
  rintro e w1 ⟨rfl, hb1⟩
  have A0 := Hid.mk (blk_below (blk_alloc (blk_new w _) _) hb1)
  have A1 := Hid.mk (blk_below (blk_new1 w _ _) hb1)
  have HB1 := Hid.mk (below_then HB0 hb1)
  clear hb1 HB0
  have k1 := blk_cell A0.out 7
  have k2 := blk_cell A1.out 7
  simp only [List.getElem?_toArray, List.getElem?_cons_zero, List.getElem?_cons_succ] at k1 k2
  go_wp2_with fail
  clear k1 k2
  refine (eqInt64S a2 b2 S.n2 c2 d2 S.L2 _ (H.out.s2.below HB1.out) (H'.out.s2.below HB1.out) h2).mono ?_
  rintro e w2 ⟨rfl, hb2⟩
  have B0 := Hid.mk (blk_below A0.out hb2)
  have B1 := Hid.mk (blk_below A1.out hb2)
  have HB2 := Hid.mk (below_then HB1.out hb2)
  clear hb2 HB1 A0 A1
  have k1 := blk_cell B0.out 8
  have k2 := blk_cell B1.out 8
  simp only [List.getElem?_toArray, List.getElem?_cons_zero, List.getElem?_cons_succ] at k1 k2
  go_wp2_with fail
  clear k1 k2
  refine (eqInt64S a3 b3 S.n3 c3 d3 S.L3 _ (H.out.s3.below HB2.out) (H'.out.s3.below HB2.out) h3).mono ?_
  rintro e w3 ⟨rfl, hb3⟩
  have HB3 := Hid.mk (below_then HB2.out hb3)
  clear hb3 HB2 B0 B1
  go_wp2
  go_ret
  exact ⟨rfl, HB3.out⟩

def lftS (n : Nat) (l : Int) : Int := if l - n < 0 then -1 else l - n
theorem lftS_bd (n : Nat) (l : Int) (h : ¬ lftS n l < 0) (h1 : l ≤ 1048576) : 0 ≤ lftS n l ∧ lftS n l ≤ 1048576 ∧ (n : Int) ≤ l := by unfold lftS at *; split at * <;> omega
theorem szInt64SG (a : Option Addr) (n cap : Nat) (l : Int) (w : World) (hn : n ≤ 9223372036854775807) (h0 : 0 ≤ l) (h1 : l ≤ 1048576) : Calls Tryz.prog 63 #[.slice a n cap, .int .i64 l] w fun e w' => e = .returned (.int .i64 (lftS n l)) ∧ w' = w := by
  unfold lftS
  by_cases h : l - n < 0
  · rw [if_pos h]
    go_enter Tryz.func63, Tryz.ntmps63
    go_wp2
    go_ret
    exact ⟨rfl, rfl⟩
  · rw [if_neg h]
    go_enter Tryz.func63, Tryz.ntmps63
    go_wp2
    go_ret
    exact ⟨rfl, rfl⟩
theorem szVehicleSG (a : Option Addr) (n cap : Nat) (l : Int) (w : World) (hn : n ≤ 9223372036854775807) (h0 : 0 ≤ l) (h1 : l ≤ 1048576) : Calls Tryz.prog 32 #[.slice a n cap, .int .i64 l] w fun e w' => e = .returned (.int .i64 (lftS n l)) ∧ w' = w := by
  unfold lftS
  by_cases h : l - n < 0
  · rw [if_pos h]
    go_enter Tryz.func32, Tryz.ntmps32
    go_wp2
    go_ret
    exact ⟨rfl, rfl⟩
  · rw [if_neg h]
    go_enter Tryz.func32, Tryz.ntmps32
    go_wp2
    go_ret
    exact ⟨rfl, rfl⟩
theorem szRequestSG (a : Option Addr) (n cap : Nat) (l : Int) (w : World) (hn : n ≤ 9223372036854775807) (h0 : 0 ≤ l) (h1 : l ≤ 1048576) : Calls Tryz.prog 33 #[.slice a n cap, .int .i64 l] w fun e w' => e = .returned (.int .i64 (lftS n l)) ∧ w' = w := by
  unfold lftS
  by_cases h : l - n < 0
  · rw [if_pos h]
    go_enter Tryz.func33, Tryz.ntmps33
    go_wp2
    go_ret
    exact ⟨rfl, rfl⟩
  · rw [if_neg h]
    go_enter Tryz.func33, Tryz.ntmps33
    go_wp2
    go_ret
    exact ⟨rfl, rfl⟩
theorem szRoadSG (a : Option Addr) (n cap : Nat) (l : Int) (w : World) (hn : n ≤ 9223372036854775807) (h0 : 0 ≤ l) (h1 : l ≤ 1048576) : Calls Tryz.prog 34 #[.slice a n cap, .int .i64 l] w fun e w' => e = .returned (.int .i64 (lftS n l)) ∧ w' = w := by
  unfold lftS
  by_cases h : l - n < 0
  · rw [if_pos h]
    go_enter Tryz.func34, Tryz.ntmps34
    go_wp2
    go_ret
    exact ⟨rfl, rfl⟩
  · rw [if_neg h]
    go_enter Tryz.func34, Tryz.ntmps34
    go_wp2
    go_ret
    exact ⟨rfl, rfl⟩
theorem szInsSG (a : Option Addr) (n cap : Nat) (l : Int) (w : World) (hn : n ≤ 9223372036854775807) (h0 : 0 ≤ l) (h1 : l ≤ 1048576) : Calls Tryz.prog 31 #[.slice a n cap, .int .i64 l] w fun e w' => e = .returned (.int .i64 (lftS n l)) ∧ w' = w := by
  unfold lftS
  by_cases h : l - n < 0
  · rw [if_pos h]
    go_enter Tryz.func31, Tryz.ntmps31
    go_wp2
    go_ret
    exact ⟨rfl, rfl⟩
  · rw [if_neg h]
    go_enter Tryz.func31, Tryz.ntmps31
    go_wp2
    go_ret
    exact ⟨rfl, rfl⟩

set_option maxHeartbeats 1600000 in
theorem szStateG (a1 a2 a3 : Option Addr) (c1 c2 c3 n1 n2 n3 : Nat) (x0 x1 x2 x3 x4 x5 : Int) (l : Int) (w : World) (h1 : n1 ≤ 9223372036854775807) (h2 : n2 ≤ 9223372036854775807) (h3 : n3 ≤ 9223372036854775807) (l0 : 0 ≤ l) (l1 : l ≤ 1048576) :
    Calls Tryz.prog 20 #[.agg #[.int .i64 x0, .int .i64 x1, .int .i64 x2, .int .i64 x3, .int .i64 x4, .int .i64 x5, .slice a1 n1 c1, .slice a2 n2 c2, .slice a3 n3 c3], .int .i64 l] w fun e w' => ∃ r : Int, e = .returned (.int .i64 r) ∧ Below w.heap.size w w' ∧ (r < 0 ∨ (0 ≤ r ∧ r ≤ 1048576 ∧ n1 ≤ 1048576 ∧ n2 ≤ 1048576 ∧ n3 ≤ 1048576)) := by
  by_cases g1 : lftS n1 l < 0
  · go_enter Tryz.func20, Tryz.ntmps20
    go_wp2_with (first | (go_at_call 63; refine (szInt64SG _ _ _ _ _ (by assumption) (by omega) (by omega)).mono ?_; rintro e w' ⟨rfl, rfl⟩))
    go_ret
    exact ⟨_, rfl, by go_grown, Or.inl (by omega)⟩
  have b1 := lftS_bd _ _ g1 (by omega)
  by_cases g2 : lftS n2 (lftS n1 l) < 0
  · go_enter Tryz.func20, Tryz.ntmps20
    go_wp2_with (first | (go_at_call 63; refine (szInt64SG _ _ _ _ _ (by assumption) (by omega) (by omega)).mono ?_; rintro e w' ⟨rfl, rfl⟩))
    go_ret
    exact ⟨_, rfl, by go_grown, Or.inl (by omega)⟩
  have b2 := lftS_bd _ _ g2 (by omega)
  by_cases g3 : lftS n3 (lftS n2 (lftS n1 l)) < 0
  all_goals
    go_enter Tryz.func20, Tryz.ntmps20
    go_wp2_with (first | (go_at_call 63; refine (szInt64SG _ _ _ _ _ (by assumption) (by omega) (by omega)).mono ?_; rintro e w' ⟨rfl, rfl⟩))
    go_ret
  · exact ⟨_, rfl, by go_grown, Or.inl (by omega)⟩
  · have b3 := lftS_bd _ _ (show ¬ lftS n3 (lftS n2 (lftS n1 l)) < 0 by omega) (by omega)
    exact ⟨_, rfl, by go_grown, Or.inr (by omega)⟩

set_option maxHeartbeats 1600000 in
theorem szInstG (a1 a2 a3 : Option Addr) (c1 c2 c3 n1 n2 n3 : Nat) (l : Int) (w : World) (h1 : n1 ≤ 9223372036854775807) (h2 : n2 ≤ 9223372036854775807) (h3 : n3 ≤ 9223372036854775807) (l0 : 0 ≤ l) (l1 : l ≤ 1048576) :
    Calls Tryz.prog 8 #[.agg #[.slice a1 n1 c1, .slice a2 n2 c2, .slice a3 n3 c3], .int .i64 l] w fun e w' => ∃ r : Int, e = .returned (.int .i64 r) ∧ Below w.heap.size w w' ∧ (r < 0 ∨ (0 ≤ r ∧ r ≤ 1048576 ∧ n1 ≤ 1048576 ∧ n2 ≤ 1048576 ∧ n3 ≤ 1048576)) := by
  by_cases g1 : lftS n1 l < 0
  · go_enter Tryz.func8, Tryz.ntmps8
    go_wp2_with (first | (go_at_call 32; refine (szVehicleSG _ _ _ _ _ (by assumption) (by omega) (by omega)).mono ?_; rintro e w' ⟨rfl, rfl⟩))
    go_ret
    exact ⟨_, rfl, by go_grown, Or.inl (by omega)⟩
  have b1 := lftS_bd _ _ g1 (by omega)
  by_cases g2 : lftS n2 (lftS n1 l) < 0
  · go_enter Tryz.func8, Tryz.ntmps8
    go_wp2_with (first | (go_at_call 32; refine (szVehicleSG _ _ _ _ _ (by assumption) (by omega) (by omega)).mono ?_; rintro e w' ⟨rfl, rfl⟩) | (go_at_call 33; refine (szRequestSG _ _ _ _ _ (by assumption) (by omega) (by omega)).mono ?_; rintro e w' ⟨rfl, rfl⟩))
    go_ret
    exact ⟨_, rfl, by go_grown, Or.inl (by omega)⟩
  have b2 := lftS_bd _ _ g2 (by omega)
  by_cases g3 : lftS n3 (lftS n2 (lftS n1 l)) < 0
  all_goals
    go_enter Tryz.func8, Tryz.ntmps8
    go_wp2_with (first | (go_at_call 32; refine (szVehicleSG _ _ _ _ _ (by assumption) (by omega) (by omega)).mono ?_; rintro e w' ⟨rfl, rfl⟩) | (go_at_call 33; refine (szRequestSG _ _ _ _ _ (by assumption) (by omega) (by omega)).mono ?_; rintro e w' ⟨rfl, rfl⟩) | (go_at_call 34; refine (szRoadSG _ _ _ _ _ (by assumption) (by omega) (by omega)).mono ?_; rintro e w' ⟨rfl, rfl⟩))
    go_ret
  · exact ⟨_, rfl, by go_grown, Or.inl (by omega)⟩
  · have b3 := lftS_bd _ _ (show ¬ lftS n3 (lftS n2 (lftS n1 l)) < 0 by omega) (by omega)
    exact ⟨_, rfl, by go_grown, Or.inr (by omega)⟩

set_option maxHeartbeats 1600000 in
theorem szCodeG (a1 a2 a3 : Option Addr) (c1 c2 c3 n1 n2 n3 : Nat) (x0 x1 : Int) (l : Int) (w : World) (h1 : n1 ≤ 9223372036854775807) (h2 : n2 ≤ 9223372036854775807) (h3 : n3 ≤ 9223372036854775807) (l0 : 0 ≤ l) (l1 : l ≤ 1048576) :
    Calls Tryz.prog 7 #[.agg #[.int .i64 x0, .int .i64 x1, .slice a1 n1 c1, .slice a2 n2 c2, .slice a3 n3 c3], .int .i64 l] w fun e w' => ∃ r : Int, e = .returned (.int .i64 r) ∧ Below w.heap.size w w' ∧ (r < 0 ∨ (0 ≤ r ∧ r ≤ 1048576 ∧ n1 ≤ 1048576 ∧ n2 ≤ 1048576 ∧ n3 ≤ 1048576)) := by
  by_cases g1 : lftS n1 l < 0
  · go_enter Tryz.func7, Tryz.ntmps7
    go_wp2_with (first | (go_at_call 31; refine (szInsSG _ _ _ _ _ (by assumption) (by omega) (by omega)).mono ?_; rintro e w' ⟨rfl, rfl⟩))
    go_ret
    exact ⟨_, rfl, by go_grown, Or.inl (by omega)⟩
  have b1 := lftS_bd _ _ g1 (by omega)
  by_cases g2 : lftS n2 (lftS n1 l) < 0
  · go_enter Tryz.func7, Tryz.ntmps7
    go_wp2_with (first | (go_at_call 31; refine (szInsSG _ _ _ _ _ (by assumption) (by omega) (by omega)).mono ?_; rintro e w' ⟨rfl, rfl⟩))
    go_ret
    exact ⟨_, rfl, by go_grown, Or.inl (by omega)⟩
  have b2 := lftS_bd _ _ g2 (by omega)
  by_cases g3 : lftS n3 (lftS n2 (lftS n1 l)) < 0
  all_goals
    go_enter Tryz.func7, Tryz.ntmps7
    go_wp2_with (first | (go_at_call 31; refine (szInsSG _ _ _ _ _ (by assumption) (by omega) (by omega)).mono ?_; rintro e w' ⟨rfl, rfl⟩))
    go_ret
  · exact ⟨_, rfl, by go_grown, Or.inl (by omega)⟩
  · have b3 := lftS_bd _ _ (show ¬ lftS n3 (lftS n2 (lftS n1 l)) < 0 by omega) (by omega)
    exact ⟨_, rfl, by go_grown, Or.inr (by omega)⟩
end Go.Proofs.YtgooegcmgejfpaaGreatDoor.Eq
namespace Go.Proofs.YtgooegcmgejfpaaGreatDoor.ValC
open Go Go.RowKit Go.Proofs.YtgooegcmgejfpaaGreatDoor.Mem
set_option linter.unusedVariables false
attribute [local go_sem ↓] Go.wp_at_zero Go.wp_at_succ

def inB (x lo hi : Int) : Bool := decide (lo ≤ x) && decide (x ≤ hi)
theorem ret_bool {a b : Bool} (h : a = b) : Ending.returned (.bool a) = .returned (.bool b) := by rw [h]

/-- Whether a field may hold x, by what it names. -/
def tf (R S k n u x : Int) : Bool :=
  if u = 1 then inB x 13 (R - 1) else if u = 2 then inB x 0 (R - 1) else if u = 3 then inB x (-1000000000) 1000000000 else if u = 4 then inB x 0 15
  else if u = 5 then inB x (k + 1) n else if u = 6 then inB x 1 100 else if u = 7 then inB x 0 (S - 1) else x == 0
def shTab : List (Int × Int × Int) := [(0, 0, 0), (1, 3, 0), (1, 2, 0), (1, 2, 0), (1, 2, 0), (1, 2, 2), (1, 2, 2), (1, 2, 2), (1, 2, 2), (1, 2, 2), (1, 2, 2), (1, 2, 2), (1, 2, 2), (1, 4, 0), (1, 4, 0), (2, 5, 0), (2, 5, 0), (0, 5, 0), (2, 6, 0), (7, 2, 0), (1, 7, 0)]
def sh (m : Nat) : Int × Int × Int := shTab.getD m (0, 0, 0)
theorem sh_bd : ∀ m, m < 21 → 0 ≤ (sh m).1 ∧ (sh m).1 ≤ 7 ∧ 0 ≤ (sh m).2.1 ∧ (sh m).2.1 ≤ 7 ∧ 0 ≤ (sh m).2.2 ∧ (sh m).2.2 ≤ 7 := by decide
/-- An instruction that may stand at index k of a block of n. -/
def okI (R S k n : Int) (x : Is) : Bool := inB x.p 1 20 && (tf R S k n (sh x.p.toNat).1 x.a && tf R S k n (sh x.p.toNat).2.1 x.b && tf R S k n (sh x.p.toNat).2.2 x.c)
def okBlk (R S : Int) (n : Nat) (B : Nat → Is) : Bool := !decide (16384 < n) && allB n (fun i => okI R S i n (B i))
/-- The code keeps every bound. -/
def okCo (C : Co) : Bool := inB C.R 13 1000 && inB C.S 0 100 && okBlk C.R C.S C.n1 C.B1 && okBlk C.R C.S C.n2 C.B2 && okBlk C.R C.S C.n3 C.B3

/-- The other way to say it. -/
def okS (R S k n : Int) (x : Is) : Bool :=
  if 5 ≤ x.p ∧ x.p ≤ 12 then inB x.a 13 (R - 1) && inB x.b 0 (R - 1) && inB x.c 0 (R - 1)
  else if x.c ≠ 0 then false
  else if x.p = 1 then inB x.a 13 (R - 1) && inB x.b (-1000000000) 1000000000
  else if x.p = 2 ∨ x.p = 3 ∨ x.p = 4 then inB x.a 13 (R - 1) && inB x.b 0 (R - 1)
  else if x.p = 13 ∨ x.p = 14 then inB x.a 13 (R - 1) && inB x.b 0 15
  else if x.p = 15 ∨ x.p = 16 then inB x.a 0 (R - 1) && inB x.b (k + 1) n
  else if x.p = 17 then (x.a == 0) && inB x.b (k + 1) n
  else if x.p = 18 then inB x.a 0 (R - 1) && inB x.b 1 100
  else if x.p = 19 then inB x.a 0 (S - 1) && inB x.b 0 (R - 1)
  else if x.p = 20 then inB x.a 13 (R - 1) && inB x.b 0 (S - 1)
  else false

theorem ok_eq (R S k n : Int) (x : Is) : okS R S k n x = okI R S k n x := by
  by_cases h : 1 ≤ x.p ∧ x.p ≤ 20
  · obtain ⟨h1, h2⟩ := h
    have : x.p = 1 ∨ x.p = 2 ∨ x.p = 3 ∨ x.p = 4 ∨ x.p = 5 ∨ x.p = 6 ∨ x.p = 7 ∨ x.p = 8 ∨ x.p = 9 ∨ x.p = 10 ∨ x.p = 11 ∨ x.p = 12 ∨ x.p = 13 ∨ x.p = 14 ∨ x.p = 15 ∨ x.p = 16 ∨ x.p = 17 ∨ x.p = 18 ∨ x.p = 19 ∨ x.p = 20 := by omega
    rcases this with e | e | e | e | e | e | e | e | e | e | e | e | e | e | e | e | e | e | e | e <;>
      simp [okS, okI, e, sh, shTab, tf, inB, Bool.and_assoc] <;> by_cases hc : x.c = 0 <;> simp [hc]
  · have hi : inB x.p 1 20 = false := by simp [inB]; omega
    have : ¬ (5 ≤ x.p ∧ x.p ≤ 12) := by omega
    have e1 : ¬ x.p = 1 := by omega
    have e2 : ¬ (x.p = 2 ∨ x.p = 3 ∨ x.p = 4) := by omega
    have e3 : ¬ (x.p = 13 ∨ x.p = 14) := by omega
    have e4 : ¬ (x.p = 15 ∨ x.p = 16) := by omega
    have e5 : ¬ x.p = 17 := by omega
    have e6 : ¬ x.p = 18 := by omega
    have e7 : ¬ x.p = 19 := by omega
    have e8 : ¬ x.p = 20 := by omega
    unfold okS okI
    rw [hi, if_neg this, if_neg e1, if_neg e2, if_neg e3, if_neg e4, if_neg e5, if_neg e6, if_neg e7, if_neg e8]
    simp

end Go.Proofs.YtgooegcmgejfpaaGreatDoor.ValC
namespace Go.Proofs.YtgooegcmgejfpaaGreatDoor.Arith
open Go Go.RowKit
set_option linter.unusedVariables false

/-- held within -1000000000 .. 1000000000 -/
def cl (x : Int) : Int := if 1000000000 < x then 1000000000 else if x < -1000000000 then -1000000000 else x
theorem cl_bd (x : Int) : -1000000000 ≤ cl x ∧ cl x ≤ 1000000000 := by unfold cl; split <;> (try split) <;> omega
theorem cl_hi (x : Int) (h : 1000000000 < x) : cl x = 1000000000 := by unfold cl; rw [if_pos h]
theorem cl_lo (x : Int) (h : x < -1000000000) : cl x = -1000000000 := by unfold cl; rw [if_neg (by omega), if_pos h]
theorem cl_in (x : Int) (h : ¬ 1000000000 < x) (h' : ¬ x < -1000000000) : cl x = x := by unfold cl; rw [if_neg h, if_neg h']
theorem ret_int {k : IntKind} {a b : Int} (h : a = b) : Ending.returned (.int k a) = .returned (.int k b) := by rw [h]

theorem clampS (x : Int) (w : World) : Calls Tryz.prog 130 #[.int .i64 x] w fun e w' => e = .returned (.int .i64 (cl x)) ∧ w' = w := by
  by_cases h1 : 1000000000 < x
  · rw [cl_hi x h1]
    go_enter Tryz.func130, Tryz.ntmps130
    go_wp2
    go_ret
    exact ⟨rfl, rfl⟩
  · by_cases h2 : x < -1000000000
    · rw [cl_lo x h2]
      go_enter Tryz.func130, Tryz.ntmps130
      go_wp2
      go_ret
      exact ⟨rfl, rfl⟩
    · rw [cl_in x h1 h2]
      go_enter Tryz.func130, Tryz.ntmps130
      go_wp2
      go_ret
      exact ⟨rfl, rfl⟩

theorem cl_mm (x : Int) : min (max x (-1000000000)) 1000000000 = cl x := by unfold cl; split <;> (try split) <;> omega
theorem clampI (x : Int) (w : World) : Calls Tryz.prog 177 #[.int .i64 x] w fun e w' => e = .returned (.int .i64 (cl x)) ∧ w' = w := by
  go_enter Tryz.func177, Tryz.ntmps177
  go_wp2
  go_ret
  exact ⟨ret_int (cl_mm x), rfl⟩

def sadd (a b : Int) : Int := cl (cl a + cl b)
def smul (a b : Int) : Int := cl (wrap64 (cl a * cl b))

theorem addS (a b : Int) (w : World) : Calls Tryz.prog 90 #[.int .i64 a, .int .i64 b] w fun e w' => e = .returned (.int .i64 (sadd a b)) ∧ w' = w := by
  have ha := cl_bd a
  have hb := cl_bd b
  go_enter Tryz.func90, Tryz.ntmps90
  go_wp2_with (go_at_call 130; refine (clampS _ _).mono ?_; rintro e w' ⟨rfl, rfl⟩)
  go_ret
  exact ⟨rfl, rfl⟩
theorem addI (a b : Int) (w : World) : Calls Tryz.prog 145 #[.int .i64 a, .int .i64 b] w fun e w' => e = .returned (.int .i64 (sadd a b)) ∧ w' = w := by
  have ha := cl_bd a
  have hb := cl_bd b
  go_enter Tryz.func145, Tryz.ntmps145
  go_wp2_with (go_at_call 177; refine (clampI _ _).mono ?_; rintro e w' ⟨rfl, rfl⟩)
  go_ret
  exact ⟨rfl, rfl⟩
theorem mulS (a b : Int) (w : World) : Calls Tryz.prog 171 #[.int .i64 a, .int .i64 b] w fun e w' => e = .returned (.int .i64 (smul a b)) ∧ w' = w := by
  go_enter Tryz.func171, Tryz.ntmps171
  go_wp2_with (go_at_call 130; refine (clampS _ _).mono ?_; rintro e w' ⟨rfl, rfl⟩)
  go_ret
  exact ⟨rfl, rfl⟩
theorem mulI (a b : Int) (w : World) : Calls Tryz.prog 144 #[.int .i64 a, .int .i64 b] w fun e w' => e = .returned (.int .i64 (smul a b)) ∧ w' = w := by
  go_enter Tryz.func144, Tryz.ntmps144
  go_wp2_with (go_at_call 177; refine (clampI _ _).mono ?_; rintro e w' ⟨rfl, rfl⟩)
  go_ret
  exact ⟨rfl, rfl⟩
end Go.Proofs.YtgooegcmgejfpaaGreatDoor.Arith
namespace Go.Proofs.YtgooegcmgejfpaaGreatDoor.Mac
open Go Go.RowKit Go.Proofs.YtgooegcmgejfpaaGreatDoor.Mem
open Go.Proofs.YtgooegcmgejfpaaGreatDoor.Arith (cl cl_bd sadd smul)
open Go.Proofs.YtgooegcmgejfpaaGreatDoor.ValC (okI okS ok_eq)
set_option linter.unusedVariables false
set_option linter.unusedSimpArgs false

/-! What a block does: the same for the program's machine and the specification's. -/
def bit (b : Bool) : Int := if b then 1 else 0
theorem bit_bd (b : Bool) : 0 ≤ bit b ∧ bit b ≤ 1 := by cases b <;> simp [bit]
def hasB (set tag : Int) : Bool := (set / 2 ^ tag.toNat) % 2 == 1
/-- What the instructions see besides the lists: the request (-1: none), how many there are, its tags, the vehicle's skills. -/
structure En where
  (q : Int) (nQ : Nat) (tags skills : Int)
def gt (l : List Int) (i : Int) : Int := l.getD i.toNat 0
def val (E : En) (x : Is) (r s : List Int) : Int :=
  if x.p = 1 then x.b else if x.p = 2 then gt r x.b else if x.p = 3 then -gt r x.b else if x.p = 4 then bit (gt r x.b == 0)
  else if x.p = 5 then smul (gt r x.b) (gt r x.c) else if x.p = 6 then sadd (gt r x.b) (gt r x.c) else if x.p = 7 then sadd (gt r x.b) (-gt r x.c)
  else if x.p = 8 then bit (decide (gt r x.b < gt r x.c)) else if x.p = 9 then bit (decide (gt r x.b ≤ gt r x.c)) else if x.p = 10 then bit (gt r x.b == gt r x.c)
  else if x.p = 11 then min (gt r x.b) (gt r x.c) else if x.p = 12 then max (gt r x.b) (gt r x.c)
  else if x.p = 13 then (if E.q < 0 then 0 else bit (hasB E.tags x.b)) else if x.p = 14 then bit (hasB E.skills x.b)
  else if E.q < 0 then 0 else gt s (x.b * E.nQ + E.q)
def exec (E : En) (B : Nat → Is) (n : Nat) : Nat → Nat → List Int → List Int → List Int × List Int × Int
  | 0, _, r, s => (r, s, -1)
  | f + 1, k, r, s =>
    if n ≤ k then (r, s, -1)
    else if (B k).p = 17 then exec E B n f (B k).b.toNat r s
    else if (B k).p = 15 then (if gt r (B k).a = 0 then exec E B n f (B k).b.toNat r s else exec E B n f (k + 1) r s)
    else if (B k).p = 16 then (if gt r (B k).a = 0 then exec E B n f (k + 1) r s else exec E B n f (B k).b.toNat r s)
    else if (B k).p = 18 then (if gt r (B k).a = 0 then (r, s, (B k).b) else exec E B n f (k + 1) r s)
    else if (B k).p = 19 then exec E B n f (k + 1) r (if E.q < 0 then s else s.set ((B k).a * E.nQ + E.q).toNat (gt r (B k).b))
    else exec E B n f (k + 1) (r.set (B k).a.toNat (val E (B k) r s)) s
theorem exec_end {E : En} {B : Nat → Is} {n f k : Nat} {r s : List Int} (h : n ≤ k) : exec E B n f k r s = (r, s, -1) := by
  cases f with
  | zero => rfl
  | succ f => rw [exec, if_pos h]

/-- Every number within the bound. -/
def Bd (l : List Int) : Prop := ∀ i, -1000000000 ≤ l.getD i 0 ∧ l.getD i 0 ≤ 1000000000
theorem Bd.gt {l : List Int} (h : Bd l) (i : Int) : -1000000000 ≤ gt l i ∧ gt l i ≤ 1000000000 := h i.toNat
theorem Bd.set {l : List Int} (h : Bd l) {k : Nat} {x : Int} (h0 : -1000000000 ≤ x) (h1 : x ≤ 1000000000) : Bd (l.set k x) := fun i => by
  have := h i
  simp only [List.getD_eq_getElem?_getD, List.getElem?_set] at this ⊢
  split
  · split
    · simp; omega
    · simp
  · exact this
theorem val_bd {E : En} {x : Is} {r s : List Int} (hb : -1000000000 ≤ x.b) (hb' : x.b ≤ 1000000000) (hr : Bd r) (hs : Bd s) : -1000000000 ≤ val E x r s ∧ val E x r s ≤ 1000000000 := by
  have h1 := hr.gt x.b
  have h2 := hr.gt x.c
  have h3 := hs.gt (x.b * E.nQ + E.q)
  have b1 := bit_bd (gt r x.b == 0)
  have b2 := bit_bd (decide (gt r x.b < gt r x.c))
  have b3 := bit_bd (decide (gt r x.b ≤ gt r x.c))
  have b4 := bit_bd (gt r x.b == gt r x.c)
  have b5 := bit_bd (hasB E.tags x.b)
  have b6 := bit_bd (hasB E.skills x.b)
  have c1 := cl_bd (wrap64 (cl (gt r x.b) * cl (gt r x.c)))
  have c2 := cl_bd (cl (gt r x.b) + cl (gt r x.c))
  have c3 := cl_bd (cl (gt r x.b) + cl (-gt r x.c))
  unfold val smul sadd
  repeat' split
  all_goals omega

/-- What an instruction at index k of a block of n may name. -/
structure OkI (R S k n : Int) (x : Is) : Prop where
  p0 : 1 ≤ x.p
  p1 : x.p ≤ 20
  set : x.p ≤ 14 ∨ x.p = 20 → 13 ≤ x.a ∧ x.a ≤ R - 1
  tst : x.p = 15 ∨ x.p = 16 ∨ x.p = 18 → 0 ≤ x.a ∧ x.a ≤ R - 1
  jmp : x.p = 15 ∨ x.p = 16 ∨ x.p = 17 → k + 1 ≤ x.b ∧ x.b ≤ n
  rul : x.p = 18 → 1 ≤ x.b ∧ x.b ≤ 100
  reg : 2 ≤ x.p ∧ x.p ≤ 12 ∨ x.p = 19 → 0 ≤ x.b ∧ x.b ≤ R - 1
  two : 5 ≤ x.p ∧ x.p ≤ 12 → 0 ≤ x.c ∧ x.c ≤ R - 1
  tag : x.p = 13 ∨ x.p = 14 → 0 ≤ x.b ∧ x.b ≤ 15
  slt : x.p = 19 → 0 ≤ x.a ∧ x.a ≤ S - 1
  lod : x.p = 20 → 0 ≤ x.b ∧ x.b ≤ S - 1
  num : x.p = 1 → -1000000000 ≤ x.b ∧ x.b ≤ 1000000000
theorem ok_ins {R S k n : Int} {x : Is} (h : okI R S k n x = true) : OkI R S k n x := by
  have hp : 1 ≤ x.p ∧ x.p ≤ 20 := by
    unfold ValC.okI at h
    simp only [Bool.and_eq_true] at h
    simpa [ValC.inB] using h.1
  rw [← ok_eq] at h
  obtain ⟨h1, h2⟩ := hp
  have : x.p = 1 ∨ x.p = 2 ∨ x.p = 3 ∨ x.p = 4 ∨ x.p = 5 ∨ x.p = 6 ∨ x.p = 7 ∨ x.p = 8 ∨ x.p = 9 ∨ x.p = 10 ∨ x.p = 11 ∨ x.p = 12 ∨ x.p = 13 ∨ x.p = 14 ∨ x.p = 15 ∨ x.p = 16 ∨ x.p = 17 ∨ x.p = 18 ∨ x.p = 19 ∨ x.p = 20 := by omega
  rcases this with e | e | e | e | e | e | e | e | e | e | e | e | e | e | e | e | e | e | e | e <;>
    (simp [okS, e, ValC.inB] at h; constructor <;> omega)
end Go.Proofs.YtgooegcmgejfpaaGreatDoor.Mac
namespace Go.Proofs.YtgooegcmgejfpaaGreatDoor.Mac
open Go Go.RowKit Go.Proofs.YtgooegcmgejfpaaGreatDoor.Mem
open Go.Proofs.YtgooegcmgejfpaaGreatDoor.Arith (cl cl_bd sadd smul addS mulS addI mulI ret_int)
set_option linter.unusedVariables false
set_option linter.unusedSimpArgs false
attribute [local go_sem ↓] Go.wp_at_zero Go.wp_at_succ

theorem ret_bool {a b : Bool} (h : a = b) : Ending.returned (.bool a) = .returned (.bool b) := by rw [h]
theorem bitS (b : Bool) (w : World) : Calls Tryz.prog 96 #[.bool b] w fun e w' => e = .returned (.int .i64 (bit b)) ∧ w' = w := by
  cases b <;>
  (go_enter Tryz.func96, Tryz.ntmps96
   go_wp2
   go_ret
   exact ⟨rfl, rfl⟩)
theorem bitI (b : Bool) (w : World) : Calls Tryz.prog 142 #[.bool b] w fun e w' => e = .returned (.int .i64 (bit b)) ∧ w' = w := by
  cases b <;>
  (go_enter Tryz.func142, Tryz.ntmps142
   go_wp2
   go_ret
   exact ⟨rfl, rfl⟩)
theorem maxS (a b : Int) (w : World) : Calls Tryz.prog 116 #[.int .i64 a, .int .i64 b] w fun e w' => e = .returned (.int .i64 (max a b)) ∧ w' = w := by
  by_cases h : b < a
  · go_enter Tryz.func116, Tryz.ntmps116
    go_wp2
    go_ret
    exact ⟨ret_int (by omega), rfl⟩
  · have h' : decide (b < a) = false := by simpa using h
    go_enter Tryz.func116, Tryz.ntmps116
    go_wp2
    go_ret
    exact ⟨ret_int (by omega), rfl⟩
set_option maxHeartbeats 1600000 in
theorem hasS (z t : Int) (w : World) (z0 : 0 ≤ z) (z1 : z ≤ 65535) (t0 : 0 ≤ t) (t1 : t ≤ 15) : Calls Tryz.prog 131 #[.int .i64 z, .int .i64 t] w fun e w' => e = .returned (.bool (hasB z t)) ∧ w' = w := by
  have : t = 0 ∨ t = 1 ∨ t = 2 ∨ t = 3 ∨ t = 4 ∨ t = 5 ∨ t = 6 ∨ t = 7 ∨ t = 8 ∨ t = 9 ∨ t = 10 ∨ t = 11 ∨ t = 12 ∨ t = 13 ∨ t = 14 ∨ t = 15 := by omega
  rcases this with rfl | rfl | rfl | rfl | rfl | rfl | rfl | rfl | rfl | rfl | rfl | rfl | rfl | rfl | rfl | rfl
  all_goals
    go_enter Tryz.func131, Tryz.ntmps131
    go_wp2
    go_ret
    exact ⟨ret_bool (by simp [hasB]), rfl⟩
theorem and1 (x : Int) (h0 : 0 ≤ x) (h1 : x < 131072) : bits .and .i64 x 1 = x % 2 := bits_mask .i64 17 (by decide) (fun z h0 h1 => by rw [IntKind.wrap_i64]; omega) 1 (by decide) x h0 h1
set_option maxHeartbeats 1600000 in
theorem hasI (z t : Int) (w : World) (z0 : 0 ≤ z) (z1 : z ≤ 65535) (t0 : 0 ≤ t) (t1 : t ≤ 15) : Calls Tryz.prog 178 #[.int .i64 z, .int .i64 t] w fun e w' => e = .returned (.int .i64 (bit (hasB z t))) ∧ w' = w := by
  have : t = 0 ∨ t = 1 ∨ t = 2 ∨ t = 3 ∨ t = 4 ∨ t = 5 ∨ t = 6 ∨ t = 7 ∨ t = 8 ∨ t = 9 ∨ t = 10 ∨ t = 11 ∨ t = 12 ∨ t = 13 ∨ t = 14 ∨ t = 15 := by omega
  rcases this with rfl | rfl | rfl | rfl | rfl | rfl | rfl | rfl | rfl | rfl | rfl | rfl | rfl | rfl | rfl | rfl
  all_goals
    go_enter Tryz.func178, Tryz.ntmps178
    go_wp2
    go_ret
    exact ⟨ret_int (by rw [and1 _ (by omega) (by omega)]; simp [hasB, bit]; split <;> omega), rfl⟩
set_option maxHeartbeats 1600000 in
theorem binS (k a b : Int) (w : World) (a0 : -1000000000 ≤ a) (a1 : a ≤ 1000000000) (b0 : -1000000000 ≤ b) (b1 : b ≤ 1000000000) (k0 : 0 ≤ k) (k1 : k ≤ 5) : Calls Tryz.prog 132 #[.int .i64 k, .int .i64 a, .int .i64 b] w fun e w' => e = .returned (.int .i64 (if k = 0 then smul a b else if k = 1 then sadd a b else if k = 2 then sadd a (-b) else if k = 3 then bit (decide (a < b)) else if k = 4 then bit (decide (a ≤ b)) else bit (a == b))) ∧ w' = w := by
  have : k = 0 ∨ k = 1 ∨ k = 2 ∨ k = 3 ∨ k = 4 ∨ k = 5 := by omega
  rcases this with rfl | rfl | rfl | rfl | rfl | rfl
  all_goals
    go_enter Tryz.func132, Tryz.ntmps132
    go_wp2_with (first | (go_at_call 171; refine (mulS _ _ _).mono ?_; rintro e w' ⟨rfl, rfl⟩) | (go_at_call 90; refine (addS _ _ _).mono ?_; rintro e w' ⟨rfl, rfl⟩) | (go_at_call 96; refine (bitS _ _).mono ?_; rintro e w' ⟨rfl, rfl⟩))
    go_ret
    exact ⟨rfl, rfl⟩
theorem subI (a b : Int) (w : World) (a0 : -1000000000 ≤ a) (a1 : a ≤ 1000000000) (b0 : -1000000000 ≤ b) (b1 : b ≤ 1000000000) : Calls Tryz.prog 146 #[.int .i64 a, .int .i64 b] w fun e w' => e = .returned (.int .i64 (sadd a (-b))) ∧ w' = w := by
  go_enter Tryz.func146, Tryz.ntmps146
  go_wp2_with (go_at_call 145; refine (addI _ _ _).mono ?_; rintro e w' ⟨rfl, rfl⟩)
  go_ret
  exact ⟨rfl, rfl⟩
theorem lessI (a b : Int) (w : World) (a0 : -1000000000 ≤ a) (a1 : a ≤ 1000000000) (b0 : -1000000000 ≤ b) (b1 : b ≤ 1000000000) : Calls Tryz.prog 147 #[.int .i64 a, .int .i64 b] w fun e w' => e = .returned (.int .i64 (bit (decide (a < b)))) ∧ w' = w := by
  go_enter Tryz.func147, Tryz.ntmps147
  go_wp2_with (go_at_call 142; refine (bitI _ _).mono ?_; rintro e w' ⟨rfl, rfl⟩)
  go_ret
  exact ⟨rfl, rfl⟩
theorem mostI (a b : Int) (w : World) (a0 : -1000000000 ≤ a) (a1 : a ≤ 1000000000) (b0 : -1000000000 ≤ b) (b1 : b ≤ 1000000000) : Calls Tryz.prog 148 #[.int .i64 a, .int .i64 b] w fun e w' => e = .returned (.int .i64 (bit (decide (a ≤ b)))) ∧ w' = w := by
  go_enter Tryz.func148, Tryz.ntmps148
  go_wp2_with (go_at_call 142; refine (bitI _ _).mono ?_; rintro e w' ⟨rfl, rfl⟩)
  go_ret
  exact ⟨rfl, rfl⟩
theorem equalI (a b : Int) (w : World) (a0 : -1000000000 ≤ a) (a1 : a ≤ 1000000000) (b0 : -1000000000 ≤ b) (b1 : b ≤ 1000000000) : Calls Tryz.prog 149 #[.int .i64 a, .int .i64 b] w fun e w' => e = .returned (.int .i64 (bit (a == b))) ∧ w' = w := by
  go_enter Tryz.func149, Tryz.ntmps149
  go_wp2_with (go_at_call 142; refine (bitI _ _).mono ?_; rintro e w' ⟨rfl, rfl⟩)
  go_ret
  exact ⟨rfl, rfl⟩
theorem minI (a b : Int) (w : World) (a0 : -1000000000 ≤ a) (a1 : a ≤ 1000000000) (b0 : -1000000000 ≤ b) (b1 : b ≤ 1000000000) : Calls Tryz.prog 150 #[.int .i64 a, .int .i64 b] w fun e w' => e = .returned (.int .i64 (min a b)) ∧ w' = w := by
  go_enter Tryz.func150, Tryz.ntmps150
  go_wp2_with fail
  go_ret
  exact ⟨rfl, rfl⟩
theorem maxI (a b : Int) (w : World) (a0 : -1000000000 ≤ a) (a1 : a ≤ 1000000000) (b0 : -1000000000 ≤ b) (b1 : b ≤ 1000000000) : Calls Tryz.prog 151 #[.int .i64 a, .int .i64 b] w fun e w' => e = .returned (.int .i64 (max a b)) ∧ w' = w := by
  go_enter Tryz.func151, Tryz.ntmps151
  go_wp2_with fail
  go_ret
  exact ⟨rfl, rfl⟩
end Go.Proofs.YtgooegcmgejfpaaGreatDoor.Mac
