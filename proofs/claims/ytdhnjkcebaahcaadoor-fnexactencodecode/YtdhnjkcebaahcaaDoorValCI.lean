import Derived.Test.YtdhnjkcebaahcaaDoorValC1
import Derived.Lib.QuietBelow
namespace Go.Proofs.YtdhnjkcebaahcaaDoor.ValC
open Go Go.RowKit Go.Sort Go.Proofs.YtdhnjkcebaahcaaDoor.Mem
set_option linter.unusedVariables false
attribute [local go_sem ↓] Go.wp_at_zero Go.wp_at_succ

theorem inI (x lo hi : Int) (w : World) : Calls Tryd.prog 50 #[.int .i64 x, .int .i64 lo, .int .i64 hi] w fun e w' => e = .returned (.bool (inB x lo hi)) ∧ w' = w := by
  by_cases h1 : lo ≤ x
  · go_enter Tryd.func50, Tryd.ntmps50
    go_wp2
    go_ret
    exact ⟨ret_bool (by simp [inB, h1]), rfl⟩
  · have hd : decide (lo ≤ x) = false := by simpa using h1
    go_enter Tryd.func50, Tryd.ntmps50
    go_wp2
    go_ret
    exact ⟨ret_bool (by simp [inB]; omega), rfl⟩

set_option maxHeartbeats 1600000 in
theorem takesFieldI (R S k n u x : Int) (w : World) (hR0 : 13 ≤ R) (hR1 : R ≤ 1000) (hS0 : 0 ≤ S) (hS1 : S ≤ 100) (hk0 : 0 ≤ k) (hk1 : k ≤ 1048576) (u0 : 0 ≤ u) (u1 : u ≤ 7) :
    Calls Tryd.prog 100 #[.agg #[.int .i64 R, .int .i64 S, .int .i64 k, .int .i64 n], .int .i64 x, .int .i64 u] w fun e w' => e = .returned (.bool (tf R S k n u x)) ∧ Below w.heap.size w w' := by
  have : u = 0 ∨ u = 1 ∨ u = 2 ∨ u = 3 ∨ u = 4 ∨ u = 5 ∨ u = 6 ∨ u = 7 := by omega
  clear u0 u1
  rcases this with rfl | rfl | rfl | rfl | rfl | rfl | rfl | rfl
  all_goals
    go_enter Tryd.func100, Tryd.ntmps100
    go_wp2_with (go_at_call 50; refine (inI _ _ _ _).mono ?_; rintro e w' ⟨rfl, rfl⟩)
    go_ret
    exact ⟨ret_bool (by simp [tf]), by go_grown⟩

/-- The table of the fields' uses. -/
def TabC (w : World) : Prop := ∀ m, m < 21 → w.cell? ⟨0, m * 3, none⟩ = some (.int .i64 (sh m).1) ∧ w.cell? ⟨0, m * 3 + 1, none⟩ = some (.int .i64 (sh m).2.1) ∧ w.cell? ⟨0, m * 3 + 2, none⟩ = some (.int .i64 (sh m).2.2)
theorem TabC.below {w w' : World} (h : TabC w) (hb : Below w.heap.size w w') : TabC w' := fun m hm => ⟨cell_keep hb (h m hm).1, cell_keep hb (h m hm).2.1, cell_keep hb (h m hm).2.2⟩

set_option maxHeartbeats 1600000 in
theorem takesI (R S k n p a b c : Int) (w : World) (hT : TabC w) (hR0 : 13 ≤ R) (hR1 : R ≤ 1000) (hS0 : 0 ≤ S) (hS1 : S ≤ 100) (hk0 : 0 ≤ k) (hk1 : k ≤ 1048576) :
    Calls Tryd.prog 84 #[.agg #[.int .i64 R, .int .i64 S, .int .i64 k, .int .i64 n], .agg #[.int .i64 p, .int .i64 a, .int .i64 b, .int .i64 c]] w fun e w' => e = .returned (.bool (okI R S k n ⟨p, a, b, c⟩)) ∧ Below w.heap.size w w' := by
  cases hp : inB p 1 20 with
  | false =>
    go_enter Tryd.func84, Tryd.ntmps84
    go_wp2_with (go_at_call 50; refine (inI _ _ _ _).mono ?_; rintro e w' ⟨rfl, rfl⟩)
    go_ret
    exact ⟨ret_bool (by simp [okI, hp]), by go_grown⟩
  | true =>
    obtain ⟨m, rfl⟩ : ∃ m : Nat, p = (m : Int) := ⟨p.toNat, by simp [inB] at hp; omega⟩
    have m0 : m < 21 := by simp [inB] at hp; omega
    obtain ⟨t0, t1, t2⟩ := hT m m0
    have g5 := lt_of_cell t0
    clear hT
    have i0 : (0 : Int) ≤ (m : Int) := by omega
    have i1 : (m : Int) < 21 := by omega
    go_enter Tryd.func84, Tryd.ntmps84
    obtain ⟨s0, s1, s2, s3, s4, s5⟩ := sh_bd m m0
    go_wp2_with (first | (go_at_call 50; refine (inI _ _ _ _).mono ?_; rintro e w' ⟨rfl, rfl⟩) | (go_at_call 100; refine (takesFieldI _ _ _ _ _ _ _ hR0 hR1 hS0 hS1 hk0 hk1 (by assumption) (by assumption)).mono ?_; rintro e w1 ⟨rfl, hb⟩; have hk := below_then (w := ((w.alloc (Obj.cells #[.int .i64 R, .int .i64 S, .int .i64 k, .int .i64 n] 125)).alloc (Obj.cells #[.int .i64 m, .int .i64 a, .int .i64 b, .int .i64 c] 90)).alloc (Obj.cells #[.int .i64 (sh m).1, .int .i64 (sh m).2.1, .int .i64 (sh m).2.2] 140)) (by first | assumption | exact Below.refl _ _) hb; have hq := bcell hk; obtain ⟨hc, hf⟩ := hq; clear hb; try simp only [World.size_alloc] at hc hf))
    all_goals (go_ret; refine ⟨ret_bool ?_, ?_⟩)
    all_goals first | exact below_then (by go_grown) hk | (simp [okI, *]; done)

theorem blk_false {R S : Int} {n k : Nat} {B : Nat → Is} (hk : k < n) (h : okI R S k n (B k) = false) : okBlk R S n B = false := by
  simp [okBlk, allB_false (f := fun i => okI R S i n (B i)) hk h]

set_option maxHeartbeats 4000000 in
set_option maxRecDepth 100000 in
theorem blockI (C : Co) (a1 a2 a3 : Option Addr) (c1 c2 c3 : Nat) (a : Option Addr) (n cap : Nat) (B : Nat → Is) (w : World) (hs : SliceAt w a n 4 (fun i => (B i).cells)) (hn : n ≤ 1048576) (hT : TabC w) (hR0 : 13 ≤ C.R) (hR1 : C.R ≤ 1000) (hS0 : 0 ≤ C.S) (hS1 : C.S ≤ 100) :
    Calls Tryd.prog 51 #[.agg #[.int .i64 C.R, .int .i64 C.S, .slice a1 C.n1 c1, .slice a2 C.n2 c2, .slice a3 C.n3 c3], .slice a n cap] w fun e w' => e = .returned (.bool (okBlk C.R C.S n B)) ∧ Below w.heap.size w w' := by
  have H := Hid.mk hs
  have HT := Hid.mk hT
  clear hs hT
  by_cases g1 : (16384 : Int) < (n : Int)
  · have hv : okBlk C.R C.S n B = false := by simp [okBlk]; omega
    rw [hv]; clear hv
    go_enter Tryd.func51, Tryd.ntmps51
    go_wp2
    go_ret
    exact ⟨rfl, by go_grown⟩
  have d1 : decide ((16384 : Int) < (n : Int)) = false := by simpa using g1
  go_enter Tryd.func51, Tryd.ntmps51
  go_wp2
  go_loopw [20] (fun i wr => ∃ k : Nat, k ≤ n ∧ i = .int .i64 k ∧ Hid (Below w.heap.size w wr) ∧ Hid (∃ x : Int, wr.heap[w.heap.size + 1]? = some (.cells #[.int .i64 C.R, .int .i64 C.S, .int .i64 x, .int .i64 n] 125)) ∧ Hid (allB k (fun i => okI C.R C.S i n (B i)) = true)) (fun i _ => n - (intOf i).toNat)
  case atStart => exact ⟨0, Nat.zero_le _, rfl, by unfold Hid; go_grown, ⟨0, blk_new1 _ _ _⟩, rfl⟩
  case round =>
    obtain ⟨k, hk, rfl, hb, ⟨x, hx⟩, ha⟩ := hrel
    by_cases hlt : k < n
    · rcases H.out with hs | ⟨b, off, rfl, hs⟩
      · omega
      obtain ⟨e0, e1, e2, e3⟩ := Is.at (rangeAt_below (hs k hlt) hb.out)
      clear hs
      have k0 : (0 : Int) ≤ (k : Int) := by omega
      have k1 : (k : Int) < (n : Int) := by omega
      have HX := Hid.mk hx
      clear hx
      have z := blk_lt HX.out
      have x0 := blk_cell HX.out 0
      have x1 := blk_cell HX.out 1
      have x2 := blk_cell HX.out 2
      have x3 := blk_cell HX.out 3
      have y2 := blk_unfrozen HX.out 2
      simp only [List.getElem?_toArray, List.getElem?_cons_zero, List.getElem?_cons_succ] at x0 x1 x2 x3
      go_wp2_with fail
      clear e0 e1 e2 e3 x0 x1 x2 x3 y2
      have hB0 := Hid.mk (below_alloc' (below_set hb.out ⟨w.heap.size + 1, 2, none⟩ (show w.heap.size ≤ w.heap.size + 1 by omega) (.int .i64 (k : Int))) (.cells #[.int .i64 (B k).p, .int .i64 (B k).a, .int .i64 (B k).b, .int .i64 (B k).c] 90))
      refine (takesI C.R C.S k n (B k).p (B k).a (B k).b (B k).c _ (HT.out.below hB0.out) hR0 hR1 hS0 hS1 k0 (by omega)).mono ?_
      rintro e w1 ⟨rfl, hb1⟩
      have hx1 := blk_below (blk_alloc (blk_set HX.out 2 (.int .i64 (k : Int))) (.cells #[.int .i64 (B k).p, .int .i64 (B k).a, .int .i64 (B k).b, .int .i64 (B k).c] 90)) hb1
      have hb2 := Hid.mk (below_then hB0.out hb1)
      have HX1 : Hid (∃ x : Int, w1.heap[w.heap.size + 1]? = some (.cells #[.int .i64 C.R, .int .i64 C.S, .int .i64 x, .int .i64 n] 125)) := ⟨k, hx1⟩
      clear hb1 hx1 hB0 HX hb
      cases hg : okI C.R C.S k n (B k) with
      | false =>
        have hv : Hid (okBlk C.R C.S n B = false) := blk_false hlt hg
        have hg' : okI C.R C.S k n ⟨(B k).p, (B k).a, (B k).b, (B k).c⟩ = false := hg
        clear hg
        go_wp2
        go_ret
        exact ⟨ret_bool hv.out.symm, hb2.out⟩
      | true =>
        have ha' : Hid (allB (k + 1) (fun i => okI C.R C.S i n (B i)) = true) := allB_succ ha.out hg
        have hg' : okI C.R C.S k n ⟨(B k).p, (B k).a, (B k).b, (B k).c⟩ = true := hg
        clear hg
        go_wp2
        exact ⟨⟨k + 1, by omega, by go_num, hb2, HX1, ha'⟩, by simp [intOf]; omega⟩
    · have hkn : k = n := by omega
      subst hkn
      go_wp2
      go_ret
      exact ⟨ret_bool (by simp [okBlk, ha.out]; omega), hb.out⟩

set_option maxHeartbeats 4000000 in
set_option maxRecDepth 100000 in
theorem validI (a1 a2 a3 : Option Addr) (c1 c2 c3 : Nat) (C : Co) (w : World) (h : CoAt w a1 a2 a3 C) (h1 : C.n1 ≤ 1048576) (h2 : C.n2 ≤ 1048576) (h3 : C.n3 ≤ 1048576) (hT : TabC w) :
    Calls Tryd.prog 19 #[.agg #[.int .i64 C.R, .int .i64 C.S, .slice a1 C.n1 c1, .slice a2 C.n2 c2, .slice a3 C.n3 c3]] w fun e w' => e = .returned (.bool (okCo C)) ∧ Below w.heap.size w w' := by
  have H := Hid.mk h
  have HT := Hid.mk hT
  clear h hT
  cases g1 : inB C.R 13 1000 with
  | false =>
    go_enter Tryd.func19, Tryd.ntmps19
    go_wp2_with (go_at_call 50; refine (inI _ _ _ _).mono ?_; rintro e w' ⟨rfl, rfl⟩)
    go_ret
    exact ⟨ret_bool (by simp [okCo, g1]), by go_grown⟩
  | true =>
    cases g2 : inB C.S 0 100 with
    | false =>
      go_enter Tryd.func19, Tryd.ntmps19
      go_wp2_with (go_at_call 50; refine (inI _ _ _ _).mono ?_; rintro e w' ⟨rfl, rfl⟩)
      go_ret
      exact ⟨ret_bool (by simp [okCo, g2]), by go_grown⟩
    | true =>
      have r0 : 13 ≤ C.R ∧ C.R ≤ 1000 := by simpa [inB] using g1
      have r1 : 0 ≤ C.S ∧ C.S ≤ 100 := by simpa [inB] using g2
      go_enter Tryd.func19, Tryd.ntmps19
      go_wp2_with (go_at_call 50; refine (inI _ _ _ _).mono ?_; rintro e w' ⟨rfl, rfl⟩)
      have hK : Below w.heap.size w (w.alloc (.cells #[.int .i64 C.R, .int .i64 C.S, .slice a1 C.n1 c1, .slice a2 C.n2 c2, .slice a3 C.n3 c3] 48)) := by go_grown
      refine (blockI C a1 a2 a3 c1 c2 c3 _ _ _ C.B1 _ (H.out.b1.below hK) h1 (HT.out.below hK) r0.1 r0.2 r1.1 r1.2).mono ?_
      rintro e w1 ⟨rfl, hb1⟩
      have HB1 := Hid.mk (below_then hK hb1)
      have A1 := Hid.mk (blk_below (blk_new w _) hb1)
      clear hb1 hK
      cases o1 : okBlk C.R C.S C.n1 C.B1 with
      | false =>
        go_wp2
        go_ret
        exact ⟨ret_bool (by simp [okCo, o1]), HB1.out⟩
      | true =>
        have x0 := blk_cell A1.out 0
        have x1 := blk_cell A1.out 1
        have x2 := blk_cell A1.out 2
        have x3 := blk_cell A1.out 3
        have x4 := blk_cell A1.out 4
        simp only [List.getElem?_toArray, List.getElem?_cons_zero, List.getElem?_cons_succ] at x0 x1 x2 x3 x4
        go_wp2_with fail
        clear x0 x1 x2 x3 x4
        refine (blockI C a1 a2 a3 c1 c2 c3 _ _ _ C.B2 _ (H.out.b2.below HB1.out) h2 (HT.out.below HB1.out) r0.1 r0.2 r1.1 r1.2).mono ?_
        rintro e w2 ⟨rfl, hb2⟩
        have HB2 := Hid.mk (below_then HB1.out hb2)
        have A2 := Hid.mk (blk_below A1.out hb2)
        clear hb2 HB1 A1
        cases o2 : okBlk C.R C.S C.n2 C.B2 with
        | false =>
          go_wp2
          go_ret
          exact ⟨ret_bool (by simp [okCo, o2]), HB2.out⟩
        | true =>
          have x0 := blk_cell A2.out 0
          have x1 := blk_cell A2.out 1
          have x2 := blk_cell A2.out 2
          have x3 := blk_cell A2.out 3
          have x4 := blk_cell A2.out 4
          simp only [List.getElem?_toArray, List.getElem?_cons_zero, List.getElem?_cons_succ] at x0 x1 x2 x3 x4
          go_wp2_with fail
          clear x0 x1 x2 x3 x4
          refine (blockI C a1 a2 a3 c1 c2 c3 _ _ _ C.B3 _ (H.out.b3.below HB2.out) h3 (HT.out.below HB2.out) r0.1 r0.2 r1.1 r1.2).mono ?_
          rintro e w3 ⟨rfl, hb3⟩
          have HB3 := Hid.mk (below_then HB2.out hb3)
          clear hb3 HB2 A2
          go_wp2
          go_ret
          exact ⟨ret_bool (by simp [okCo, g1, g2, o1, o2]), HB3.out⟩
end Go.Proofs.YtdhnjkcebaahcaaDoor.ValC
