import Derived.Test.YtgooegcmgejfpaaGreatDoorGr02
import Derived.Deep.DrawnRows
import Derived.Test.YtgooegcmgejfpaaGreatDoorGr01
namespace Go.Proofs.YtgooegcmgejfpaaGreatDoor.Eq
open Go Go.RowKit Go.Proofs.YtgooegcmgejfpaaGreatDoor.Mem
set_option linter.unusedVariables false
attribute [local go_sem ↓] Go.wp_at_zero Go.wp_at_succ

set_option maxHeartbeats 400000 in
theorem eqIns (p a b c : Int) (w : World) : Calls Tryz.prog 109 #[.agg #[.int .i64 p, .int .i64 a, .int .i64 b, .int .i64 c], .agg #[.int .i64 p, .int .i64 a, .int .i64 b, .int .i64 c]] w fun e w' => e = .returned (.bool true) ∧ Below w.heap.size w w' := by
  go_enter Tryz.func109, Tryz.ntmps109
  go_wp2
  go_ret
  exact ⟨rfl, by go_grown⟩

theorem rowIsI : (Tryz.prog.info? 133).map (·.size) = some 4 := by kernel_rfl
set_option maxHeartbeats 1600000 in
set_option maxRecDepth 100000 in
theorem eqInsS (a a' : Option Addr) (n cap cap' : Nat) (V : Nat → Is) (w : World) (hs : SliceAt w a n 4 (fun i => (V i).cells)) (hs' : SliceAt w a' n 4 (fun i => (V i).cells)) (hn : n ≤ 1048576) :
    Calls Tryz.prog 53 #[.slice a n cap, .slice a' n cap'] w fun e w' => e = .returned (.bool true) ∧ Below w.heap.size w w' := by
  go_enter Tryz.func53, Tryz.ntmps53
  have HS : Hid (SliceAt w a n 4 (fun i => (V i).cells)) := hs
  have HS' : Hid (SliceAt w a' n 4 (fun i => (V i).cells)) := hs'
  clear hs hs'
  go_wp2
  go_loopw [5] (fun i wr => ∃ k : Nat, k ≤ n ∧ i = .int .i64 k ∧ Hid (Below w.heap.size w wr)) (fun i _ => n - (intOf i).toNat)
  case atStart => exact ⟨0, Nat.zero_le _, rfl, Below.refl _ _⟩
  case round =>
    obtain ⟨k, hk, rfl, hb⟩ := hrel
    by_cases hlt : k < n
    · rcases HS.out with hs | ⟨b, off, rfl, hs⟩
      · omega
      rcases HS'.out with hs' | ⟨b', off', rfl, hs'⟩
      · omega
      have hr := rangeAt_below (hs k hlt) hb.out
      have hr' := rangeAt_below (hs' k hlt) hb.out
      obtain ⟨c0, c1, c2, c3⟩ := Is.at hr
      obtain ⟨e0, e1, e2, e3⟩ := Is.at hr'
      clear hs hs' hr hr'
      have k0 : (0 : Int) ≤ (k : Int) := by omega
      have k1 : (k : Int) < (n : Int) := by omega
      go_wp2_with fail
      go_region_held3 (fun w' => w'.cell? ⟨b, off + k * 4, none⟩ = some (.int .i64 (V k).p) ∧ w'.cell? ⟨b, off + k * 4 + 1, none⟩ = some (.int .i64 (V k).a) ∧ w'.cell? ⟨b, off + k * 4 + 2, none⟩ = some (.int .i64 (V k).b) ∧ w'.cell? ⟨b, off + k * 4 + 3, none⟩ = some (.int .i64 (V k).c) ∧ w'.cell? ⟨b', off' + k * 4, none⟩ = some (.int .i64 (V k).p) ∧ w'.cell? ⟨b', off' + k * 4 + 1, none⟩ = some (.int .i64 (V k).a) ∧ w'.cell? ⟨b', off' + k * 4 + 2, none⟩ = some (.int .i64 (V k).b) ∧ w'.cell? ⟨b', off' + k * 4 + 3, none⟩ = some (.int .i64 (V k).c)) (first | go_keep | ((repeat' constructor) <;> exact cell_keep hb1 (by first | assumption | (simp [*]; done)))) ((go_at_call 109; refine (eqIns _ _ _ _ _).mono ?_; rintro e w1 ⟨rfl, hb1⟩))
      have hb2 : Hid (Below w.heap.size w w1) := below_then hb.out.drew hb1
      clear hb1 hb
      go_wp2
      exact ⟨⟨k + 1, by omega, by go_num, hb2⟩, by simp [intOf]; omega⟩
    · go_wp2
      go_ret
      exact ⟨rfl, hb.out⟩

set_option maxHeartbeats 1600000 in
theorem eqCode (a1 a2 a3 b1 b2 b3 : Option Addr) (c1 c2 c3 d1 d2 d3 : Nat) (C : Co) (w : World) (h : CoAt w a1 a2 a3 C) (h' : CoAt w b1 b2 b3 C) (h1 : C.n1 ≤ 1048576) (h2 : C.n2 ≤ 1048576) (h3 : C.n3 ≤ 1048576) :
    Calls Tryz.prog 14 #[coV C a1 a2 a3 c1 c2 c3, coV C b1 b2 b3 d1 d2 d3] w fun e w' => e = .returned (.bool true) ∧ Below w.heap.size w w' := by
  have H := Hid.mk h
  have H' := Hid.mk h'
  clear h h'
  unfold coV
  go_enter Tryz.func14, Tryz.ntmps14
  go_wp2_with fail
  have HB0 : Below w.heap.size w ((w.alloc (Obj.cells #[.int .i64 C.R, .int .i64 C.S, Value.slice a1 C.n1 c1, Value.slice a2 C.n2 c2, Value.slice a3 C.n3 c3] 38)).alloc (Obj.cells #[.int .i64 C.R, .int .i64 C.S, Value.slice b1 C.n1 d1, Value.slice b2 C.n2 d2, Value.slice b3 C.n3 d3] 38)) := by go_grown
  refine (eqInsS a1 b1 C.n1 c1 d1 C.B1 _ (H.out.b1.below HB0) (H'.out.b1.below HB0) h1).mono ?_
  rintro e w1 ⟨rfl, hb1⟩
  have A0 := Hid.mk (blk_below (blk_alloc (blk_new w _) _) hb1)
  have A1 := Hid.mk (blk_below (blk_new1 w _ _) hb1)
  have HB1 := Hid.mk (below_then HB0 hb1)
  clear hb1 HB0
  have k1 := blk_cell A0.out 3
  have k2 := blk_cell A1.out 3
  simp only [List.getElem?_toArray, List.getElem?_cons_zero, List.getElem?_cons_succ] at k1 k2
  go_wp2_with fail
  clear k1 k2
  refine (eqInsS a2 b2 C.n2 c2 d2 C.B2 _ (H.out.b2.below HB1.out) (H'.out.b2.below HB1.out) h2).mono ?_
  rintro e w2 ⟨rfl, hb2⟩
  have B0 := Hid.mk (blk_below A0.out hb2)
  have B1 := Hid.mk (blk_below A1.out hb2)
  have HB2 := Hid.mk (below_then HB1.out hb2)
  clear hb2 HB1 A0 A1
  have k1 := blk_cell B0.out 4
  have k2 := blk_cell B1.out 4
  simp only [List.getElem?_toArray, List.getElem?_cons_zero, List.getElem?_cons_succ] at k1 k2
  go_wp2_with fail
  clear k1 k2
  refine (eqInsS a3 b3 C.n3 c3 d3 C.B3 _ (H.out.b3.below HB2.out) (H'.out.b3.below HB2.out) h3).mono ?_
  rintro e w3 ⟨rfl, hb3⟩
  have HB3 := Hid.mk (below_then HB2.out hb3)
  clear hb3 HB2 B0 B1
  go_wp2
  go_ret
  exact ⟨rfl, HB3.out⟩

def lftC (n : Nat) (l : Int) : Int := if l - n < 0 then -1 else l - n

theorem szInsS (a : Option Addr) (n cap : Nat) (l : Int) (w : World) (hn : n ≤ 9223372036854775807) (h0 : 0 ≤ l) (h1 : l ≤ 1048576) : Calls Tryz.prog 31 #[.slice a n cap, .int .i64 l] w fun e w' => e = .returned (.int .i64 (lftC n l)) ∧ w' = w := by
  unfold lftC
  by_cases h : l - n < 0
  · rw [if_pos h]
    go_enter Tryz.func31, Tryz.ntmps31
    go_wp2
    go_ret
    exact ⟨rfl, rfl⟩
  · rw [if_neg h]
    go_enter Tryz.func31, Tryz.ntmps31
    go_wp2
    go_ret
    exact ⟨rfl, rfl⟩

theorem lftC_bd (n : Nat) (l : Int) (h : ¬ lftC n l < 0) (h1 : l ≤ 1048576) : 0 ≤ lftC n l ∧ lftC n l ≤ 1048576 ∧ (n : Int) ≤ l := by unfold lftC at *; split at * <;> omega

set_option maxHeartbeats 1600000 in
/-- The size of a code: -1, or its three blocks are short. -/
theorem szCode (a1 a2 a3 : Option Addr) (c1 c2 c3 n1 n2 n3 : Nat) (x y : Int) (w : World) (h1 : n1 ≤ 9223372036854775807) (h2 : n2 ≤ 9223372036854775807) (h3 : n3 ≤ 9223372036854775807) :
    Calls Tryz.prog 7 #[.agg #[.int .i64 x, .int .i64 y, .slice a1 n1 c1, .slice a2 n2 c2, .slice a3 n3 c3], .int .i64 1048576] w fun e w' => ∃ r : Int, e = .returned (.int .i64 r) ∧ Below w.heap.size w w' ∧ (r < 0 ∨ (0 ≤ r ∧ r ≤ 1048576 ∧ n1 ≤ 1048576 ∧ n2 ≤ 1048576 ∧ n3 ≤ 1048576)) := by
  by_cases g1 : lftC n1 1048576 < 0
  · go_enter Tryz.func7, Tryz.ntmps7
    go_wp2_with (go_at_call 31; refine (szInsS _ _ _ _ _ h1 (by omega) (by omega)).mono ?_; rintro e w' ⟨rfl, rfl⟩)
    go_ret
    exact ⟨_, rfl, by go_grown, Or.inl (by omega)⟩
  have b1 := lftC_bd _ _ g1 (by omega)
  by_cases g2 : lftC n2 (lftC n1 1048576) < 0
  · go_enter Tryz.func7, Tryz.ntmps7
    go_wp2_with (go_at_call 31; refine (szInsS _ _ _ _ _ (by assumption) (by omega) (by omega)).mono ?_; rintro e w' ⟨rfl, rfl⟩)
    go_ret
    exact ⟨_, rfl, by go_grown, Or.inl (by omega)⟩
  have b2 := lftC_bd _ _ g2 (by omega)
  by_cases g3 : lftC n3 (lftC n2 (lftC n1 1048576)) < 0
  all_goals
    go_enter Tryz.func7, Tryz.ntmps7
    go_wp2_with (go_at_call 31; refine (szInsS _ _ _ _ _ (by assumption) (by omega) (by omega)).mono ?_; rintro e w' ⟨rfl, rfl⟩)
    go_ret
  · exact ⟨_, rfl, by go_grown, Or.inl (by omega)⟩
  · have b3 := lftC_bd _ _ (show ¬ lftC n3 (lftC n2 (lftC n1 1048576)) < 0 by omega) (by omega)
    exact ⟨_, rfl, by go_grown, Or.inr (by omega)⟩

end Go.Proofs.YtgooegcmgejfpaaGreatDoor.Eq
namespace Go.Proofs.YtgooegcmgejfpaaGreatDoor.Eq
open Go Go.RowKit Go.Proofs.YtgooegcmgejfpaaGreatDoor.Mem
set_option linter.unusedVariables false
attribute [local go_sem ↓] Go.wp_at_zero Go.wp_at_succ

set_option maxHeartbeats 400000 in
theorem eqPlace (x y o c h : Int) (w : World) : Calls Tryz.prog 165 #[.agg #[.int .i64 x, .int .i64 y, .int .i64 o, .int .i64 c, .int .i64 h], .agg #[.int .i64 x, .int .i64 y, .int .i64 o, .int .i64 c, .int .i64 h]] w fun e w' => e = .returned (.bool true) ∧ Below w.heap.size w w' := by
  go_enter Tryz.func165, Tryz.ntmps165
  go_wp2
  go_ret
  exact ⟨rfl, by go_grown⟩

set_option maxHeartbeats 400000 in
theorem eqRoad (a b t : Int) (w : World) : Calls Tryz.prog 112 #[.agg #[.int .i64 a, .int .i64 b, .int .i64 t], .agg #[.int .i64 a, .int .i64 b, .int .i64 t]] w fun e w' => e = .returned (.bool true) ∧ Below w.heap.size w w' := by
  go_enter Tryz.func112, Tryz.ntmps112
  go_wp2
  go_ret
  exact ⟨rfl, by go_grown⟩

set_option maxHeartbeats 800000 in
theorem eqVehicle (a b x y o c h : Int) (w : World) : Calls Tryz.prog 110 #[.agg #[.int .i64 a, .int .i64 b, .int .i64 x, .int .i64 y, .int .i64 o, .int .i64 c, .int .i64 h], .agg #[.int .i64 a, .int .i64 b, .int .i64 x, .int .i64 y, .int .i64 o, .int .i64 c, .int .i64 h]] w fun e w' => e = .returned (.bool true) ∧ Below w.heap.size w w' := by
  go_enter Tryz.func110, Tryz.ntmps110
  go_wp2
  go_ret
  exact ⟨rfl, by go_grown⟩

set_option maxHeartbeats 1600000 in
theorem eqRequest (a b x y o c h x' y' o' c' h' : Int) (w : World) : Calls Tryz.prog 111 #[.agg #[.int .i64 a, .int .i64 b, .int .i64 x, .int .i64 y, .int .i64 o, .int .i64 c, .int .i64 h, .int .i64 x', .int .i64 y', .int .i64 o', .int .i64 c', .int .i64 h'], .agg #[.int .i64 a, .int .i64 b, .int .i64 x, .int .i64 y, .int .i64 o, .int .i64 c, .int .i64 h, .int .i64 x', .int .i64 y', .int .i64 o', .int .i64 c', .int .i64 h']] w fun e w' => e = .returned (.bool true) ∧ Below w.heap.size w w' := by
  go_enter Tryz.func111, Tryz.ntmps111
  go_wp2
  go_ret
  exact ⟨rfl, by go_grown⟩

end Go.Proofs.YtgooegcmgejfpaaGreatDoor.Eq
namespace Go.Proofs.YtgooegcmgejfpaaGreatDoor.Eq
open Go Go.RowKit Go.Proofs.YtgooegcmgejfpaaGreatDoor.Mem
set_option linter.unusedVariables false
attribute [local go_sem ↓] Go.wp_at_zero Go.wp_at_succ

theorem rowRdI : (Tryz.prog.info? 124).map (·.size) = some 3 := by kernel_rfl
set_option maxHeartbeats 1600000 in
set_option maxRecDepth 100000 in
theorem eqRoadS (a a' : Option Addr) (n cap cap' : Nat) (V : Nat → Rd) (w : World) (hs : SliceAt w a n 3 (fun i => (V i).cells)) (hs' : SliceAt w a' n 3 (fun i => (V i).cells)) (hn : n ≤ 1048576) :
    Calls Tryz.prog 56 #[.slice a n cap, .slice a' n cap'] w fun e w' => e = .returned (.bool true) ∧ Below w.heap.size w w' := by
  go_enter Tryz.func56, Tryz.ntmps56
  have HS : Hid (SliceAt w a n 3 (fun i => (V i).cells)) := hs
  have HS' : Hid (SliceAt w a' n 3 (fun i => (V i).cells)) := hs'
  clear hs hs'
  go_wp2
  go_loopw [5] (fun i wr => ∃ k : Nat, k ≤ n ∧ i = .int .i64 k ∧ Hid (Below w.heap.size w wr)) (fun i _ => n - (intOf i).toNat)
  case atStart => exact ⟨0, Nat.zero_le _, rfl, Below.refl _ _⟩
  case round =>
    obtain ⟨k, hk, rfl, hb⟩ := hrel
    by_cases hlt : k < n
    · rcases HS.out with hs | ⟨b, off, rfl, hs⟩
      · omega
      rcases HS'.out with hs' | ⟨b', off', rfl, hs'⟩
      · omega
      have hr := rangeAt_below (hs k hlt) hb.out
      have hr' := rangeAt_below (hs' k hlt) hb.out
      obtain ⟨c0, c1, c2⟩ := Rd.at hr
      obtain ⟨e0, e1, e2⟩ := Rd.at hr'
      clear hs hs' hr hr'
      have k0 : (0 : Int) ≤ (k : Int) := by omega
      have k1 : (k : Int) < (n : Int) := by omega
      go_wp2_with fail
      go_region_held3 (fun w' => w'.cell? ⟨b, off + k * 3, none⟩ = some (.int .i64 (V k).a) ∧ w'.cell? ⟨b, off + k * 3 + 1, none⟩ = some (.int .i64 (V k).b) ∧ w'.cell? ⟨b, off + k * 3 + 2, none⟩ = some (.int .i64 (V k).t) ∧ w'.cell? ⟨b', off' + k * 3, none⟩ = some (.int .i64 (V k).a) ∧ w'.cell? ⟨b', off' + k * 3 + 1, none⟩ = some (.int .i64 (V k).b) ∧ w'.cell? ⟨b', off' + k * 3 + 2, none⟩ = some (.int .i64 (V k).t)) (first | go_keep | ((repeat' constructor) <;> exact cell_keep hb1 (by first | assumption | (simp [*]; done)))) ((go_at_call 112; refine (eqRoad _ _ _ _).mono ?_; rintro e w1 ⟨rfl, hb1⟩))
      have hb2 : Hid (Below w.heap.size w w1) := below_then hb.out.drew hb1
      clear hb1 hb
      go_wp2
      exact ⟨⟨k + 1, by omega, by go_num, hb2⟩, by simp [intOf]; omega⟩
    · go_wp2
      go_ret
      exact ⟨rfl, hb.out⟩

theorem rowVehI : (Tryz.prog.info? 81).map (·.size) = some 7 := by kernel_rfl
set_option maxHeartbeats 1600000 in
set_option maxRecDepth 100000 in
theorem eqVehicleS (a a' : Option Addr) (n cap cap' : Nat) (V : Nat → Veh) (w : World) (hs : SliceAt w a n 7 (fun i => (V i).cells)) (hs' : SliceAt w a' n 7 (fun i => (V i).cells)) (hn : n ≤ 1048576) :
    Calls Tryz.prog 54 #[.slice a n cap, .slice a' n cap'] w fun e w' => e = .returned (.bool true) ∧ Below w.heap.size w w' := by
  go_enter Tryz.func54, Tryz.ntmps54
  have HS : Hid (SliceAt w a n 7 (fun i => (V i).cells)) := hs
  have HS' : Hid (SliceAt w a' n 7 (fun i => (V i).cells)) := hs'
  clear hs hs'
  go_wp2
  go_loopw [5] (fun i wr => ∃ k : Nat, k ≤ n ∧ i = .int .i64 k ∧ Hid (Below w.heap.size w wr)) (fun i _ => n - (intOf i).toNat)
  case atStart => exact ⟨0, Nat.zero_le _, rfl, Below.refl _ _⟩
  case round =>
    obtain ⟨k, hk, rfl, hb⟩ := hrel
    by_cases hlt : k < n
    · rcases HS.out with hs | ⟨b, off, rfl, hs⟩
      · omega
      rcases HS'.out with hs' | ⟨b', off', rfl, hs'⟩
      · omega
      have hr := rangeAt_below (hs k hlt) hb.out
      have hr' := rangeAt_below (hs' k hlt) hb.out
      obtain ⟨c0, c1, c2, c3, c4, c5, c6⟩ := Veh.at hr
      obtain ⟨e0, e1, e2, e3, e4, e5, e6⟩ := Veh.at hr'
      clear hs hs' hr hr'
      have k0 : (0 : Int) ≤ (k : Int) := by omega
      have k1 : (k : Int) < (n : Int) := by omega
      go_wp2_with fail
      go_region_held3 (fun w' => w'.cell? ⟨b, off + k * 7, none⟩ = some (.int .i64 (V k).a) ∧ w'.cell? ⟨b, off + k * 7 + 1, none⟩ = some (.int .i64 (V k).b) ∧ w'.cell? ⟨b, off + k * 7 + 2, none⟩ = some (.int .i64 (V k).x) ∧ w'.cell? ⟨b, off + k * 7 + 3, none⟩ = some (.int .i64 (V k).y) ∧ w'.cell? ⟨b, off + k * 7 + 4, none⟩ = some (.int .i64 (V k).o) ∧ w'.cell? ⟨b, off + k * 7 + 5, none⟩ = some (.int .i64 (V k).c) ∧ w'.cell? ⟨b, off + k * 7 + 6, none⟩ = some (.int .i64 (V k).h) ∧ w'.cell? ⟨b', off' + k * 7, none⟩ = some (.int .i64 (V k).a) ∧ w'.cell? ⟨b', off' + k * 7 + 1, none⟩ = some (.int .i64 (V k).b) ∧ w'.cell? ⟨b', off' + k * 7 + 2, none⟩ = some (.int .i64 (V k).x) ∧ w'.cell? ⟨b', off' + k * 7 + 3, none⟩ = some (.int .i64 (V k).y) ∧ w'.cell? ⟨b', off' + k * 7 + 4, none⟩ = some (.int .i64 (V k).o) ∧ w'.cell? ⟨b', off' + k * 7 + 5, none⟩ = some (.int .i64 (V k).c) ∧ w'.cell? ⟨b', off' + k * 7 + 6, none⟩ = some (.int .i64 (V k).h)) (first | go_keep | ((repeat' constructor) <;> exact cell_keep hb1 (by first | assumption | (simp [*]; done)))) ((go_at_call 110; refine (eqVehicle _ _ _ _ _ _ _ _).mono ?_; rintro e w1 ⟨rfl, hb1⟩))
      have hb2 : Hid (Below w.heap.size w w1) := below_then hb.out.drew hb1
      clear hb1 hb
      go_wp2
      exact ⟨⟨k + 1, by omega, by go_num, hb2⟩, by simp [intOf]; omega⟩
    · go_wp2
      go_ret
      exact ⟨rfl, hb.out⟩

theorem rowReqI : (Tryz.prog.info? 110).map (·.size) = some 12 := by kernel_rfl
set_option maxHeartbeats 1600000 in
set_option maxRecDepth 100000 in
theorem eqRequestS (a a' : Option Addr) (n cap cap' : Nat) (V : Nat → Req) (w : World) (hs : SliceAt w a n 12 (fun i => (V i).cells)) (hs' : SliceAt w a' n 12 (fun i => (V i).cells)) (hn : n ≤ 1048576) :
    Calls Tryz.prog 55 #[.slice a n cap, .slice a' n cap'] w fun e w' => e = .returned (.bool true) ∧ Below w.heap.size w w' := by
  go_enter Tryz.func55, Tryz.ntmps55
  have HS : Hid (SliceAt w a n 12 (fun i => (V i).cells)) := hs
  have HS' : Hid (SliceAt w a' n 12 (fun i => (V i).cells)) := hs'
  clear hs hs'
  go_wp2
  go_loopw [5] (fun i wr => ∃ k : Nat, k ≤ n ∧ i = .int .i64 k ∧ Hid (Below w.heap.size w wr)) (fun i _ => n - (intOf i).toNat)
  case atStart => exact ⟨0, Nat.zero_le _, rfl, Below.refl _ _⟩
  case round =>
    obtain ⟨k, hk, rfl, hb⟩ := hrel
    by_cases hlt : k < n
    · rcases HS.out with hs | ⟨b, off, rfl, hs⟩
      · omega
      rcases HS'.out with hs' | ⟨b', off', rfl, hs'⟩
      · omega
      have hr := rangeAt_below (hs k hlt) hb.out
      have hr' := rangeAt_below (hs' k hlt) hb.out
      obtain ⟨c0, c1, c2, c3, c4, c5, c6, c7, c8, c9, c10, c11⟩ := Req.at hr
      obtain ⟨e0, e1, e2, e3, e4, e5, e6, e7, e8, e9, e10, e11⟩ := Req.at hr'
      clear hs hs' hr hr'
      have k0 : (0 : Int) ≤ (k : Int) := by omega
      have k1 : (k : Int) < (n : Int) := by omega
      go_wp2_with fail
      go_region_held3 (fun w' => w'.cell? ⟨b, off + k * 12, none⟩ = some (.int .i64 (V k).a) ∧ w'.cell? ⟨b, off + k * 12 + 1, none⟩ = some (.int .i64 (V k).b) ∧ w'.cell? ⟨b, off + k * 12 + 2, none⟩ = some (.int .i64 (V k).x) ∧ w'.cell? ⟨b, off + k * 12 + 3, none⟩ = some (.int .i64 (V k).y) ∧ w'.cell? ⟨b, off + k * 12 + 4, none⟩ = some (.int .i64 (V k).o) ∧ w'.cell? ⟨b, off + k * 12 + 5, none⟩ = some (.int .i64 (V k).c) ∧ w'.cell? ⟨b, off + k * 12 + 6, none⟩ = some (.int .i64 (V k).h) ∧ w'.cell? ⟨b, off + k * 12 + 7, none⟩ = some (.int .i64 (V k).x') ∧ w'.cell? ⟨b, off + k * 12 + 8, none⟩ = some (.int .i64 (V k).y') ∧ w'.cell? ⟨b, off + k * 12 + 9, none⟩ = some (.int .i64 (V k).o') ∧ w'.cell? ⟨b, off + k * 12 + 10, none⟩ = some (.int .i64 (V k).c') ∧ w'.cell? ⟨b, off + k * 12 + 11, none⟩ = some (.int .i64 (V k).h') ∧ w'.cell? ⟨b', off' + k * 12, none⟩ = some (.int .i64 (V k).a) ∧ w'.cell? ⟨b', off' + k * 12 + 1, none⟩ = some (.int .i64 (V k).b) ∧ w'.cell? ⟨b', off' + k * 12 + 2, none⟩ = some (.int .i64 (V k).x) ∧ w'.cell? ⟨b', off' + k * 12 + 3, none⟩ = some (.int .i64 (V k).y) ∧ w'.cell? ⟨b', off' + k * 12 + 4, none⟩ = some (.int .i64 (V k).o) ∧ w'.cell? ⟨b', off' + k * 12 + 5, none⟩ = some (.int .i64 (V k).c) ∧ w'.cell? ⟨b', off' + k * 12 + 6, none⟩ = some (.int .i64 (V k).h) ∧ w'.cell? ⟨b', off' + k * 12 + 7, none⟩ = some (.int .i64 (V k).x') ∧ w'.cell? ⟨b', off' + k * 12 + 8, none⟩ = some (.int .i64 (V k).y') ∧ w'.cell? ⟨b', off' + k * 12 + 9, none⟩ = some (.int .i64 (V k).o') ∧ w'.cell? ⟨b', off' + k * 12 + 10, none⟩ = some (.int .i64 (V k).c') ∧ w'.cell? ⟨b', off' + k * 12 + 11, none⟩ = some (.int .i64 (V k).h')) (first | go_keep | ((repeat' constructor) <;> exact cell_keep hb1 (by first | assumption | (simp [*]; done)))) ((go_at_call 111; refine (eqRequest _ _ _ _ _ _ _ _ _ _ _ _ _).mono ?_; rintro e w1 ⟨rfl, hb1⟩))
      have hb2 : Hid (Below w.heap.size w w1) := below_then hb.out.drew hb1
      clear hb1 hb
      go_wp2
      exact ⟨⟨k + 1, by omega, by go_num, hb2⟩, by simp [intOf]; omega⟩
    · go_wp2
      go_ret
      exact ⟨rfl, hb.out⟩

end Go.Proofs.YtgooegcmgejfpaaGreatDoor.Eq
namespace Go.Proofs.YtgooegcmgejfpaaGreatDoor.Eq
open Go Go.RowKit Go.Proofs.YtgooegcmgejfpaaGreatDoor.Mem
set_option linter.unusedVariables false

set_option maxHeartbeats 1600000 in
theorem eqInst (a1 a2 a3 b1 b2 b3 : Option Addr) (c1 c2 c3 d1 d2 d3 : Nat) (I : In) (w : World) (h : InAt w a1 a2 a3 I) (h' : InAt w b1 b2 b3 I) (h1 : I.nV ≤ 1048576) (h2 : I.nQ ≤ 1048576) (h3 : I.nR ≤ 1048576) :
    Calls Tryz.prog 15 #[.agg #[.slice a1 I.nV c1, .slice a2 I.nQ c2, .slice a3 I.nR c3], .agg #[.slice b1 I.nV d1, .slice b2 I.nQ d2, .slice b3 I.nR d3]] w fun e w' => e = .returned (.bool true) ∧ Below w.heap.size w w' := by
  have H := Hid.mk h
  have H' := Hid.mk h'
  clear h h'
  go_enter Tryz.func15, Tryz.ntmps15
  go_wp2_with fail
  have HB0 : Below w.heap.size w ((w.alloc (Obj.cells #[Value.slice a1 I.nV c1, Value.slice a2 I.nQ c2, Value.slice a3 I.nR c3] 44)).alloc (Obj.cells #[Value.slice b1 I.nV d1, Value.slice b2 I.nQ d2, Value.slice b3 I.nR d3] 44)) := by go_grown
  refine (eqVehicleS a1 b1 I.nV c1 d1 I.V _ (H.out.v.below HB0) (H'.out.v.below HB0) h1).mono ?_
  rintro e w1 ⟨rfl, hb1⟩
  have A0 := Hid.mk (blk_below (blk_alloc (blk_new w _) _) hb1)
  have A1 := Hid.mk (blk_below (blk_new1 w _ _) hb1)
  have HB1 := Hid.mk (below_then HB0 hb1)
  clear hb1 HB0
  have k1 := blk_cell A0.out 1
  have k2 := blk_cell A1.out 1
  simp only [List.getElem?_toArray, List.getElem?_cons_zero, List.getElem?_cons_succ] at k1 k2
  go_wp2_with fail
  clear k1 k2
  refine (eqRequestS a2 b2 I.nQ c2 d2 I.Q _ (H.out.q.below HB1.out) (H'.out.q.below HB1.out) h2).mono ?_
  rintro e w2 ⟨rfl, hb2⟩
  have B0 := Hid.mk (blk_below A0.out hb2)
  have B1 := Hid.mk (blk_below A1.out hb2)
  have HB2 := Hid.mk (below_then HB1.out hb2)
  clear hb2 HB1 A0 A1
  have k1 := blk_cell B0.out 2
  have k2 := blk_cell B1.out 2
  simp only [List.getElem?_toArray, List.getElem?_cons_zero, List.getElem?_cons_succ] at k1 k2
  go_wp2_with fail
  clear k1 k2
  refine (eqRoadS a3 b3 I.nR c3 d3 I.R _ (H.out.r.below HB2.out) (H'.out.r.below HB2.out) h3).mono ?_
  rintro e w3 ⟨rfl, hb3⟩
  have HB3 := Hid.mk (below_then HB2.out hb3)
  clear hb3 HB2 B0 B1
  go_wp2
  go_ret
  exact ⟨rfl, HB3.out⟩
end Go.Proofs.YtgooegcmgejfpaaGreatDoor.Eq
