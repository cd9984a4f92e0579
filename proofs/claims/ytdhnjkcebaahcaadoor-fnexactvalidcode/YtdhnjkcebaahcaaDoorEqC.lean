import Derived.Test.YtdhnjkcebaahcaaDoorMemC
import Derived.Test.YtdhnjkcebaahcaaDoorKit
import Derived.Deep.DrawnRows
namespace Go.Proofs.YtdhnjkcebaahcaaDoor.Eq
open Go Go.RowKit Go.Proofs.YtdhnjkcebaahcaaDoor.Mem
set_option linter.unusedVariables false
attribute [local go_sem ↓] Go.wp_at_zero Go.wp_at_succ

set_option maxHeartbeats 400000 in
theorem eqIns (p a b c : Int) (w : World) : Calls Tryd.prog 85 #[.agg #[.int .i64 p, .int .i64 a, .int .i64 b, .int .i64 c], .agg #[.int .i64 p, .int .i64 a, .int .i64 b, .int .i64 c]] w fun e w' => e = .returned (.bool true) ∧ Below w.heap.size w w' := by
  go_enter Tryd.func85, Tryd.ntmps85
  go_wp2
  go_ret
  exact ⟨rfl, by go_grown⟩

theorem rowIsI : (Tryd.prog.info? 90).map (·.size) = some 4 := by kernel_rfl
set_option maxHeartbeats 1600000 in
set_option maxRecDepth 100000 in
theorem eqInsS (a a' : Option Addr) (n cap cap' : Nat) (V : Nat → Is) (w : World) (hs : SliceAt w a n 4 (fun i => (V i).cells)) (hs' : SliceAt w a' n 4 (fun i => (V i).cells)) (hn : n ≤ 1048576) :
    Calls Tryd.prog 52 #[.slice a n cap, .slice a' n cap'] w fun e w' => e = .returned (.bool true) ∧ Below w.heap.size w w' := by
  go_enter Tryd.func52, Tryd.ntmps52
  have HS : Hid (SliceAt w a n 4 (fun i => (V i).cells)) := hs
  have HS' : Hid (SliceAt w a' n 4 (fun i => (V i).cells)) := hs'
  clear hs hs'
  go_wp2
  go_loopw [5] (fun i wr => ∃ k : Nat, k ≤ n ∧ i = .int .i64 k ∧ Hid (Below w.heap.size w wr)) (fun i _ => n - (intOf i).toNat)
  case atStart => exact ⟨0, Nat.zero_le _, rfl, Below.refl _ _⟩
  case round =>
    obtain ⟨k, hk, rfl, hb⟩ := hrel
    by_cases hlt : k < n
    · rcases HS.out with hs | ⟨b, off, rfl, hs⟩
      · omega
      rcases HS'.out with hs' | ⟨b', off', rfl, hs'⟩
      · omega
      have hr := rangeAt_below (hs k hlt) hb.out
      have hr' := rangeAt_below (hs' k hlt) hb.out
      obtain ⟨c0, c1, c2, c3⟩ := Is.at hr
      obtain ⟨e0, e1, e2, e3⟩ := Is.at hr'
      clear hs hs' hr hr'
      have k0 : (0 : Int) ≤ (k : Int) := by omega
      have k1 : (k : Int) < (n : Int) := by omega
      go_wp2_with fail
      go_region_held3 (fun w' => w'.cell? ⟨b, off + k * 4, none⟩ = some (.int .i64 (V k).p) ∧ w'.cell? ⟨b, off + k * 4 + 1, none⟩ = some (.int .i64 (V k).a) ∧ w'.cell? ⟨b, off + k * 4 + 2, none⟩ = some (.int .i64 (V k).b) ∧ w'.cell? ⟨b, off + k * 4 + 3, none⟩ = some (.int .i64 (V k).c) ∧ w'.cell? ⟨b', off' + k * 4, none⟩ = some (.int .i64 (V k).p) ∧ w'.cell? ⟨b', off' + k * 4 + 1, none⟩ = some (.int .i64 (V k).a) ∧ w'.cell? ⟨b', off' + k * 4 + 2, none⟩ = some (.int .i64 (V k).b) ∧ w'.cell? ⟨b', off' + k * 4 + 3, none⟩ = some (.int .i64 (V k).c)) (first | go_keep | ((repeat' constructor) <;> exact cell_keep hb1 (by first | assumption | (simp [*]; done)))) ((go_at_call 85; refine (eqIns _ _ _ _ _).mono ?_; rintro e w1 ⟨rfl, hb1⟩))
      have hb2 : Hid (Below w.heap.size w w1) := below_then hb.out.drew hb1
      clear hb1 hb
      go_wp2
      exact ⟨⟨k + 1, by omega, by go_num, hb2⟩, by simp [intOf]; omega⟩
    · go_wp2
      go_ret
      exact ⟨rfl, hb.out⟩

set_option maxHeartbeats 1600000 in
theorem eqCode (a1 a2 a3 b1 b2 b3 : Option Addr) (c1 c2 c3 d1 d2 d3 : Nat) (C : Co) (w : World) (h : CoAt w a1 a2 a3 C) (h' : CoAt w b1 b2 b3 C) (h1 : C.n1 ≤ 1048576) (h2 : C.n2 ≤ 1048576) (h3 : C.n3 ≤ 1048576) :
    Calls Tryd.prog 20 #[coV C a1 a2 a3 c1 c2 c3, coV C b1 b2 b3 d1 d2 d3] w fun e w' => e = .returned (.bool true) ∧ Below w.heap.size w w' := by
  have H := Hid.mk h
  have H' := Hid.mk h'
  clear h h'
  unfold coV
  go_enter Tryd.func20, Tryd.ntmps20
  go_wp2_with fail
  have HB0 : Below w.heap.size w ((w.alloc (Obj.cells #[.int .i64 C.R, .int .i64 C.S, Value.slice a1 C.n1 c1, Value.slice a2 C.n2 c2, Value.slice a3 C.n3 c3] 48)).alloc (Obj.cells #[.int .i64 C.R, .int .i64 C.S, Value.slice b1 C.n1 d1, Value.slice b2 C.n2 d2, Value.slice b3 C.n3 d3] 48)) := by go_grown
  refine (eqInsS a1 b1 C.n1 c1 d1 C.B1 _ (H.out.b1.below HB0) (H'.out.b1.below HB0) h1).mono ?_
  rintro e w1 ⟨rfl, hb1⟩
  have A0 := Hid.mk (blk_below (blk_alloc (blk_new w _) _) hb1)
  have A1 := Hid.mk (blk_below (blk_new1 w _ _) hb1)
  have HB1 := Hid.mk (below_then HB0 hb1)
  clear hb1 HB0
  have k1 := blk_cell A0.out 3
  have k2 := blk_cell A1.out 3
  simp only [List.getElem?_toArray, List.getElem?_cons_zero, List.getElem?_cons_succ] at k1 k2
  go_wp2_with fail
  clear k1 k2
  refine (eqInsS a2 b2 C.n2 c2 d2 C.B2 _ (H.out.b2.below HB1.out) (H'.out.b2.below HB1.out) h2).mono ?_
  rintro e w2 ⟨rfl, hb2⟩
  have B0 := Hid.mk (blk_below A0.out hb2)
  have B1 := Hid.mk (blk_below A1.out hb2)
  have HB2 := Hid.mk (below_then HB1.out hb2)
  clear hb2 HB1 A0 A1
  have k1 := blk_cell B0.out 4
  have k2 := blk_cell B1.out 4
  simp only [List.getElem?_toArray, List.getElem?_cons_zero, List.getElem?_cons_succ] at k1 k2
  go_wp2_with fail
  clear k1 k2
  refine (eqInsS a3 b3 C.n3 c3 d3 C.B3 _ (H.out.b3.below HB2.out) (H'.out.b3.below HB2.out) h3).mono ?_
  rintro e w3 ⟨rfl, hb3⟩
  have HB3 := Hid.mk (below_then HB2.out hb3)
  clear hb3 HB2 B0 B1
  go_wp2
  go_ret
  exact ⟨rfl, HB3.out⟩

def lftC (n : Nat) (l : Int) : Int := if l - n < 0 then -1 else l - n

theorem szInsS (a : Option Addr) (n cap : Nat) (l : Int) (w : World) (hn : n ≤ 9223372036854775807) (h0 : 0 ≤ l) (h1 : l ≤ 1048576) : Calls Tryd.prog 46 #[.slice a n cap, .int .i64 l] w fun e w' => e = .returned (.int .i64 (lftC n l)) ∧ w' = w := by
  unfold lftC
  by_cases h : l - n < 0
  · rw [if_pos h]
    go_enter Tryd.func46, Tryd.ntmps46
    go_wp2
    go_ret
    exact ⟨rfl, rfl⟩
  · rw [if_neg h]
    go_enter Tryd.func46, Tryd.ntmps46
    go_wp2
    go_ret
    exact ⟨rfl, rfl⟩

theorem lftC_bd (n : Nat) (l : Int) (h : ¬ lftC n l < 0) (h1 : l ≤ 1048576) : 0 ≤ lftC n l ∧ lftC n l ≤ 1048576 ∧ (n : Int) ≤ l := by unfold lftC at *; split at * <;> omega

set_option maxHeartbeats 1600000 in
/-- The size of a code: -1, or its three blocks are short. -/
theorem szCode (a1 a2 a3 : Option Addr) (c1 c2 c3 n1 n2 n3 : Nat) (x y : Int) (w : World) (h1 : n1 ≤ 9223372036854775807) (h2 : n2 ≤ 9223372036854775807) (h3 : n3 ≤ 9223372036854775807) :
    Calls Tryd.prog 16 #[.agg #[.int .i64 x, .int .i64 y, .slice a1 n1 c1, .slice a2 n2 c2, .slice a3 n3 c3], .int .i64 1048576] w fun e w' => ∃ r : Int, e = .returned (.int .i64 r) ∧ Below w.heap.size w w' ∧ (r < 0 ∨ (0 ≤ r ∧ r ≤ 1048576 ∧ n1 ≤ 1048576 ∧ n2 ≤ 1048576 ∧ n3 ≤ 1048576)) := by
  by_cases g1 : lftC n1 1048576 < 0
  · go_enter Tryd.func16, Tryd.ntmps16
    go_wp2_with (go_at_call 46; refine (szInsS _ _ _ _ _ h1 (by omega) (by omega)).mono ?_; rintro e w' ⟨rfl, rfl⟩)
    go_ret
    exact ⟨_, rfl, by go_grown, Or.inl (by omega)⟩
  have b1 := lftC_bd _ _ g1 (by omega)
  by_cases g2 : lftC n2 (lftC n1 1048576) < 0
  · go_enter Tryd.func16, Tryd.ntmps16
    go_wp2_with (go_at_call 46; refine (szInsS _ _ _ _ _ (by assumption) (by omega) (by omega)).mono ?_; rintro e w' ⟨rfl, rfl⟩)
    go_ret
    exact ⟨_, rfl, by go_grown, Or.inl (by omega)⟩
  have b2 := lftC_bd _ _ g2 (by omega)
  by_cases g3 : lftC n3 (lftC n2 (lftC n1 1048576)) < 0
  all_goals
    go_enter Tryd.func16, Tryd.ntmps16
    go_wp2_with (go_at_call 46; refine (szInsS _ _ _ _ _ (by assumption) (by omega) (by omega)).mono ?_; rintro e w' ⟨rfl, rfl⟩)
    go_ret
  · exact ⟨_, rfl, by go_grown, Or.inl (by omega)⟩
  · have b3 := lftC_bd _ _ (show ¬ lftC n3 (lftC n2 (lftC n1 1048576)) < 0 by omega) (by omega)
    exact ⟨_, rfl, by go_grown, Or.inr (by omega)⟩

end Go.Proofs.YtdhnjkcebaahcaaDoor.Eq
