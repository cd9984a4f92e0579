import Derived.Test.YtgooegcmgejfpaaGreatDoorGr25
import Derived.Deep.DrawnRows
namespace Go.Proofs.YtgooegcmgejfpaaGreatDoor.ValCS
open Go Go.RowKit Go.Sort Go.Proofs.YtgooegcmgejfpaaGreatDoor.Mem Go.Proofs.YtgooegcmgejfpaaGreatDoor.ValC
set_option linter.unusedVariables false
attribute [local go_sem ↓] Go.wp_at_zero Go.wp_at_succ

set_option maxHeartbeats 4000000 in
set_option maxRecDepth 100000 in
theorem blockS (C : Co) (a1 a2 a3 : Option Addr) (c1 c2 c3 : Nat) (a : Option Addr) (n cap : Nat) (B : Nat → Is) (w : World) (hs : SliceAt w a n 4 (fun i => (B i).cells)) (hn : n ≤ 1048576) (hR0 : 13 ≤ C.R) (hR1 : C.R ≤ 1000) (hS0 : 0 ≤ C.S) (hS1 : C.S ≤ 100) :
    Calls Tryz.prog 81 #[.agg #[.int .i64 C.R, .int .i64 C.S, .slice a1 C.n1 c1, .slice a2 C.n2 c2, .slice a3 C.n3 c3], .slice a n cap] w fun e w' => e = .returned (.bool (okBlk C.R C.S n B)) ∧ Below w.heap.size w w' := by
  have H := Hid.mk hs
  clear hs
  by_cases g1 : (16384 : Int) < (n : Int)
  · have hv : okBlk C.R C.S n B = false := by simp [okBlk]; omega
    rw [hv]; clear hv
    go_enter Tryz.func81, Tryz.ntmps81
    go_wp2
    go_ret
    exact ⟨rfl, by go_grown⟩
  have d1 : decide ((16384 : Int) < (n : Int)) = false := by simpa using g1
  go_enter Tryz.func81, Tryz.ntmps81
  go_wp2
  go_loopw [5] (fun i wr => ∃ k : Nat, k ≤ n ∧ i = .int .i64 k ∧ Hid (Below w.heap.size w wr) ∧ Hid (wr.heap[w.heap.size]? = some (.cells #[.int .i64 C.R, .int .i64 C.S, .slice a1 C.n1 c1, .slice a2 C.n2 c2, .slice a3 C.n3 c3] 38)) ∧ Hid (allB k (fun i => okI C.R C.S i n (B i)) = true)) (fun i _ => n - (intOf i).toNat)
  case atStart => exact ⟨0, Nat.zero_le _, rfl, by unfold Hid; go_grown, blk_new _ _, rfl⟩
  case round =>
    obtain ⟨k, hk, rfl, hb, hx, ha⟩ := hrel
    by_cases hlt : k < n
    · rcases H.out with hs | ⟨b, off, rfl, hs⟩
      · omega
      obtain ⟨e0, e1, e2, e3⟩ := Is.at (rangeAt_below (hs k hlt) hb.out)
      clear hs
      have k0 : (0 : Int) ≤ (k : Int) := by omega
      have k1 : (k : Int) < (n : Int) := by omega
      have x0 := blk_cell hx.out 0
      have x1 := blk_cell hx.out 1
      have x2 := blk_cell hx.out 2
      have x3 := blk_cell hx.out 3
      have x4 := blk_cell hx.out 4
      simp only [List.getElem?_toArray, List.getElem?_cons_zero, List.getElem?_cons_succ] at x0 x1 x2 x3 x4
      go_wp2_with fail
      go_region_held3 (fun w' => w'.cell? ⟨w.heap.size, 0, none⟩ = some (.int .i64 C.R) ∧ w'.cell? ⟨w.heap.size, 1, none⟩ = some (.int .i64 C.S) ∧ w'.cell? ⟨w.heap.size, 2, none⟩ = some (.slice a1 C.n1 c1) ∧ w'.cell? ⟨w.heap.size, 3, none⟩ = some (.slice a2 C.n2 c2) ∧ w'.cell? ⟨w.heap.size, 4, none⟩ = some (.slice a3 C.n3 c3) ∧ w'.cell? ⟨b, off + k * 4, none⟩ = some (.int .i64 (B k).p) ∧ w'.cell? ⟨b, off + k * 4 + 1, none⟩ = some (.int .i64 (B k).a) ∧ w'.cell? ⟨b, off + k * 4 + 2, none⟩ = some (.int .i64 (B k).b) ∧ w'.cell? ⟨b, off + k * 4 + 3, none⟩ = some (.int .i64 (B k).c)) (first | go_keep | ((repeat' constructor) <;> exact cell_keep hb1 (by first | assumption | (simp [*]; done)))) ((go_at_call 128; refine (goodS C a1 a2 a3 c1 c2 c3 k n (B k) _ hR0 hR1 hS0 hS1 k0 (by omega)).mono ?_; rintro e w1 ⟨rfl, hb1⟩))
      have hb2 : Hid (Below w.heap.size w w1) := below_then hb.out.drew hb1
      have hx1 := Hid.mk (blk_below (w := wr.drew) hx.out hb1)
      clear hb1 hb hx x0 x1 x2 x3 x4 e0 e1 e2 e3
      cases hg : okI C.R C.S k n (B k) with
      | false =>
        have hv : Hid (okBlk C.R C.S n B = false) := blk_false hlt hg
        go_wp2
        go_ret
        exact ⟨ret_bool hv.out.symm, hb2.out⟩
      | true =>
        have ha' : Hid (allB (k + 1) (fun i => okI C.R C.S i n (B i)) = true) := allB_succ ha.out hg
        go_wp2
        exact ⟨⟨k + 1, by omega, by go_num, hb2, hx1, ha'⟩, by simp [intOf]; omega⟩
    · have hkn : k = n := by omega
      subst hkn
      go_wp2
      go_ret
      exact ⟨ret_bool (by simp [okBlk, ha.out]; omega), hb.out⟩

set_option maxHeartbeats 4000000 in
set_option maxRecDepth 100000 in
theorem validS (a1 a2 a3 : Option Addr) (c1 c2 c3 : Nat) (C : Co) (w : World) (h : CoAt w a1 a2 a3 C) (h1 : C.n1 ≤ 1048576) (h2 : C.n2 ≤ 1048576) (h3 : C.n3 ≤ 1048576) :
    Calls Tryz.prog 35 #[.agg #[.int .i64 C.R, .int .i64 C.S, .slice a1 C.n1 c1, .slice a2 C.n2 c2, .slice a3 C.n3 c3]] w fun e w' => e = .returned (.bool (okCo C)) ∧ Below w.heap.size w w' := by
  have H := Hid.mk h
  clear h
  cases g1 : inB C.R 13 1000 with
  | false =>
    go_enter Tryz.func35, Tryz.ntmps35
    go_wp2_with (go_at_call 37; refine (inS _ _ _ _).mono ?_; rintro e w' ⟨rfl, rfl⟩)
    go_ret
    exact ⟨ret_bool (by simp [okCo, g1]), by go_grown⟩
  | true =>
    cases g2 : inB C.S 0 100 with
    | false =>
      go_enter Tryz.func35, Tryz.ntmps35
      go_wp2_with (go_at_call 37; refine (inS _ _ _ _).mono ?_; rintro e w' ⟨rfl, rfl⟩)
      go_ret
      exact ⟨ret_bool (by simp [okCo, g2]), by go_grown⟩
    | true =>
      have r0 : 13 ≤ C.R ∧ C.R ≤ 1000 := by simpa [inB] using g1
      have r1 : 0 ≤ C.S ∧ C.S ≤ 100 := by simpa [inB] using g2
      go_enter Tryz.func35, Tryz.ntmps35
      go_wp2_with (go_at_call 37; refine (inS _ _ _ _).mono ?_; rintro e w' ⟨rfl, rfl⟩)
      have hK : Below w.heap.size w (w.alloc (.cells #[.int .i64 C.R, .int .i64 C.S, .slice a1 C.n1 c1, .slice a2 C.n2 c2, .slice a3 C.n3 c3] 38)) := by go_grown
      refine (blockS C a1 a2 a3 c1 c2 c3 _ _ _ C.B1 _ (H.out.b1.below hK) h1 r0.1 r0.2 r1.1 r1.2).mono ?_
      rintro e w1 ⟨rfl, hb1⟩
      have HB1 := Hid.mk (below_then hK hb1)
      have A1 := Hid.mk (blk_below (blk_new w _) hb1)
      clear hb1 hK
      cases o1 : okBlk C.R C.S C.n1 C.B1 with
      | false =>
        go_wp2
        go_ret
        exact ⟨ret_bool (by simp [okCo, o1]), HB1.out⟩
      | true =>
        have x0 := blk_cell A1.out 0
        have x1 := blk_cell A1.out 1
        have x2 := blk_cell A1.out 2
        have x3 := blk_cell A1.out 3
        have x4 := blk_cell A1.out 4
        simp only [List.getElem?_toArray, List.getElem?_cons_zero, List.getElem?_cons_succ] at x0 x1 x2 x3 x4
        go_wp2_with fail
        clear x0 x1 x2 x3 x4
        refine (blockS C a1 a2 a3 c1 c2 c3 _ _ _ C.B2 _ (H.out.b2.below HB1.out) h2 r0.1 r0.2 r1.1 r1.2).mono ?_
        rintro e w2 ⟨rfl, hb2⟩
        have HB2 := Hid.mk (below_then HB1.out hb2)
        have A2 := Hid.mk (blk_below A1.out hb2)
        clear hb2 HB1 A1
        cases o2 : okBlk C.R C.S C.n2 C.B2 with
        | false =>
          go_wp2
          go_ret
          exact ⟨ret_bool (by simp [okCo, o2]), HB2.out⟩
        | true =>
          have x0 := blk_cell A2.out 0
          have x1 := blk_cell A2.out 1
          have x2 := blk_cell A2.out 2
          have x3 := blk_cell A2.out 3
          have x4 := blk_cell A2.out 4
          simp only [List.getElem?_toArray, List.getElem?_cons_zero, List.getElem?_cons_succ] at x0 x1 x2 x3 x4
          go_wp2_with fail
          clear x0 x1 x2 x3 x4
          refine (blockS C a1 a2 a3 c1 c2 c3 _ _ _ C.B3 _ (H.out.b3.below HB2.out) h3 r0.1 r0.2 r1.1 r1.2).mono ?_
          rintro e w3 ⟨rfl, hb3⟩
          have HB3 := Hid.mk (below_then HB2.out hb3)
          clear hb3 HB2 A2
          go_wp2
          go_ret
          exact ⟨ret_bool (by simp [okCo, g1, g2, o1, o2]), HB3.out⟩
end Go.Proofs.YtgooegcmgejfpaaGreatDoor.ValCS
