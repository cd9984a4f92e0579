import Derived.Test.YtdhnjkcebaahcaaDoorDecM
import Derived.Test.YtdhnjkcebaahcaaDoorDecN
import Derived.Test.YtdhnjkcebaahcaaDoorEncU
import Derived.Deep.DrawnRows
namespace Go.Proofs.YtdhnjkcebaahcaaDoor.Dec
open Go Go.RowKit Go.Proofs.YtdhnjkcebaahcaaDoor.Mem Go.Proofs.YtdhnjkcebaahcaaDoor.ValC Go.Proofs.YtdhnjkcebaahcaaDoor.Enc
set_option linter.unusedVariables false
set_option linter.unusedSimpArgs false
attribute [local go_sem ↓] Go.wp_at_zero Go.wp_at_succ

set_option maxHeartbeats 400000 in
theorem insS (p a b c : Int) (w : World) : Calls Tryd.prog 88 #[.int .i64 p, .int .i64 a, .int .i64 b, .int .i64 c] w fun e w' => e = .returned (.agg #[.int .i64 p, .int .i64 a, .int .i64 b, .int .i64 c]) ∧ Below w.heap.size w w' := by
  go_enter Tryd.func88, Tryd.ntmps88
  go_wp2
  go_returns
  exact ⟨rfl, by go_grown⟩

theorem take_cells (L : List Is) (k : Nat) (hlt : k < L.length) : (L.take (k + 1)).flatMap Is.cells = (L.take k).flatMap Is.cells ++ (L.getD k ⟨0, 0, 0, 0⟩).cells := by
  have : L.take (k + 1) = L.take k ++ [L.getD k ⟨0, 0, 0, 0⟩] := by
    rw [List.take_add_one, List.getElem?_eq_getElem hlt]
    congr 1
    simp [List.getD, List.getElem?_eq_getElem hlt]
  rw [this, List.flatMap_append]
  simp
theorem wrapq (q j : Nat) (h : q + j ≤ 1000000) : IntKind.i64.wrap ((q : Int) + (j : Int)) = ((q + j : Nat) : Int) := by
  rw [IntKind.wrap_i64]; omega

set_option maxHeartbeats 3200000 in
set_option maxRecDepth 100000 in
theorem blockS (L : List Is) (N : Nat) (a : Option Addr) (c : Nat) (w : World) (hN : N = 4 * L.length) (hs : SliceAt w a L.length 4 (fun i => (L.getD i ⟨0, 0, 0, 0⟩).cells)) (hl : L.length ≤ 16384) :
    Calls Tryd.prog 59 #[.slice a N c] w fun e w' => ∃ v, e = .returned v ∧ w'.ownsRow w.heap.size 90 4 v L.length (L.flatMap Is.cells) ∧ Below w.heap.size w w' := by
  obtain ⟨i0, hi, hz0, hz1, hz2⟩ := info_parts infoIn'
  have HS := Hid.mk hs
  clear hs
  go_enter Tryd.func59, Tryd.ntmps59
  go_wp2
  go_loopw [3, 4] (fun v i wr => ∃ k q : Nat, k ≤ L.length ∧ Hid (q = 4 * k) ∧ i = .int .i64 (q : Int) ∧ Hid (wr.ownsRow w.heap.size 90 4 v k ((L.take k).flatMap Is.cells)) ∧ Hid (Below w.heap.size w wr)) (fun _ i _ => N - (intOf i).toNat)
  case atStart =>
    refine ⟨0, 0, Nat.zero_le _, rfl, rfl, ?_, ?_⟩
    · exact World.ownsRow_made w (base := w.heap.size) (e := 90) (size := 4) #[] 0 (by simp) (by unfold maxLen; omega) (by simp)
    · unfold Hid; go_grown
  case round =>
    obtain ⟨k, q, hk, hq, rfl, ho, hb⟩ := hrel
    have hqv := hq.out
    have hqb : q ≤ 65536 := by omega
    have hNb : N ≤ 65536 := by omega
    have hsz := hb.out.size
    obtain ⟨an, cn, hv⟩ := row_shape2 ho.out
    rw [hv] at ho ⊢
    clear hv
    by_cases hlt : k < L.length
    · rcases HS.out with h0 | ⟨g, off, rfl, h0⟩
      · omega
      obtain ⟨c0, c1, c2, c3⟩ := Is.at (h0 k hlt)
      clear h0
      obtain ⟨x, hx⟩ : ∃ x, x = L.getD k ⟨0, 0, 0, 0⟩ := ⟨_, rfl⟩
      rw [← hx] at c0 c1 c2 c3
      have hst : Hid ((L.take (k + 1)).flatMap Is.cells = (L.take k).flatMap Is.cells ++ x.cells) := by
        unfold Hid; rw [hx]; exact take_cells L k hlt
      clear hx
      rw [show off + k * 4 = off + q by omega] at c0
      obtain ⟨q1, hq1⟩ : ∃ q1, q1 = q + 1 := ⟨_, rfl⟩
      obtain ⟨q2, hq2⟩ : ∃ q2, q2 = q + 2 := ⟨_, rfl⟩
      obtain ⟨q3, hq3⟩ : ∃ q3, q3 = q + 3 := ⟨_, rfl⟩
      rw [show off + k * 4 + 1 = off + q1 by omega] at c1
      rw [show off + k * 4 + 2 = off + q2 by omega] at c2
      rw [show off + k * 4 + 3 = off + q3 by omega] at c3
      have s1 : IntKind.i64.wrap ((q : Int) + 1) = (q1 : Int) := by rw [hq1]; exact wrapq q 1 (by omega)
      have s2 : IntKind.i64.wrap ((q : Int) + 2) = (q2 : Int) := by rw [hq2]; exact wrapq q 2 (by omega)
      have s3 : IntKind.i64.wrap ((q : Int) + 3) = (q3 : Int) := by rw [hq3]; exact wrapq q 3 (by omega)
      have KC := Hid.mk (And.intro c0 (And.intro c1 (And.intro c2 c3)))
      have e0 := cell_keep hb.out c0
      have e1 := cell_keep hb.out c1
      have e2 := cell_keep hb.out c2
      have e3 := cell_keep hb.out c3
      have u0 : (0 : Int) ≤ (q : Int) := by omega
      have u4 : (q : Int) + 4 ≤ (N : Int) := by omega
      have v0 : (q : Int) < (N : Int) := by omega
      have v1 : (q1 : Int) < (N : Int) := by omega
      have v2 : (q2 : Int) < (N : Int) := by omega
      have v3 : (q3 : Int) < (N : Int) := by omega
      have x1 : (0 : Int) ≤ (q1 : Int) := by omega
      have y1 : q1 < N := by omega
      have x2 : (0 : Int) ≤ (q2 : Int) := by omega
      have y2 : q2 < N := by omega
      have x3 : (0 : Int) ≤ (q3 : Int) := by omega
      have y3 : q3 < N := by omega
      have hqN : q + 4 ≤ N := by omega
      have HNN := Hid.mk hN
      have HQ := Hid.mk hqv
      clear hqv c0 c1 c2 c3 hN hq1 hq2 hq3
      go_upto_region 5 with fail
      refine wp_region_held_drew (S := (fun w' => w'.cell? ⟨g, off + q, none⟩ = some (.int .i64 x.p) ∧ w'.cell? ⟨g, off + q1, none⟩ = some (.int .i64 x.a) ∧ w'.cell? ⟨g, off + q2, none⟩ = some (.int .i64 x.b) ∧ w'.cell? ⟨g, off + q3, none⟩ = some (.int .i64 x.c))) (by kernel_rfl) ?_ (fun hHeld => ?_)
      · go_keep
      refine wpAnyH_take (i := 0) (v := ?_) rfl (by kernel_rfl) (by kernel_rfl) (by kernel_rfl) (fun _ _ _ h => h) (Or.inl ⟨by rfl, ?_⟩) (by assumption) ?_
      rotate_left
      · intro w hSw; (try dsimp only at hSw); go_simp; (try with_reducible rfl)
      rotate_left
      simp only [Act.put, List.setIfInBounds_toArray, List.set_cons_zero, List.set_cons_succ, List.getElem_toArray, List.getElem_cons_zero, List.getElem_cons_succ]
      refine wpAnyH_take (i := 1) (v := ?_) rfl (by kernel_rfl) (by kernel_rfl) (by kernel_rfl) (fun _ _ _ h => h) (Or.inl ⟨by rfl, ?_⟩) (by assumption) ?_
      rotate_left
      · intro w hSw; (try dsimp only at hSw); go_simp; (try with_reducible rfl)
      rotate_left
      simp only [Act.put, List.setIfInBounds_toArray, List.set_cons_zero, List.set_cons_succ, List.getElem_toArray, List.getElem_cons_zero, List.getElem_cons_succ]
      refine wpAnyH_take (i := 2) (v := ?_) rfl (by kernel_rfl) (by kernel_rfl) (by kernel_rfl) (fun _ _ _ h => h) (Or.inl ⟨by rfl, ?_⟩) (by assumption) ?_
      rotate_left
      · intro w hSw; (try dsimp only at hSw); go_simp; (try with_reducible rfl)
      rotate_left
      simp only [Act.put, List.setIfInBounds_toArray, List.set_cons_zero, List.set_cons_succ, List.getElem_toArray, List.getElem_cons_zero, List.getElem_cons_succ]
      refine wpAnyH_take (i := 3) (v := ?_) rfl (by kernel_rfl) (by kernel_rfl) (by kernel_rfl) (fun _ _ _ h => h) (Or.inl ⟨by rfl, ?_⟩) (by assumption) ?_
      rotate_left
      · intro w hSw; (try dsimp only at hSw); go_simp; (try with_reducible rfl)
      rotate_left
      simp only [Act.put, List.setIfInBounds_toArray, List.set_cons_zero, List.set_cons_succ, List.getElem_toArray, List.getElem_cons_zero, List.getElem_cons_succ]
      refine wpAnyH_take (i := 4) (v := ?_) rfl (by kernel_rfl) (by kernel_rfl) (by kernel_rfl) (fun _ _ _ h => h) (Or.inl ⟨by rfl, ?_⟩) (by assumption) ?_
      rotate_left
      · intro w hSw; (try dsimp only at hSw); go_simp; (try with_reducible rfl)
      rotate_left
      simp only [Act.put, List.setIfInBounds_toArray, List.set_cons_zero, List.set_cons_succ, List.getElem_toArray, List.getElem_cons_zero, List.getElem_cons_succ]
      refine wpAnyH_take (i := 5) (v := ?_) rfl (by kernel_rfl) (by kernel_rfl) (by kernel_rfl) (fun _ _ _ h => h) (Or.inl ⟨by rfl, ?_⟩) (by assumption) ?_
      rotate_left
      · intro w hSw; (try dsimp only at hSw); go_simp; (try with_reducible rfl)
      rotate_left
      simp only [Act.put, List.setIfInBounds_toArray, List.set_cons_zero, List.set_cons_succ, List.getElem_toArray, List.getElem_cons_zero, List.getElem_cons_succ]
      refine wpAnyH_take (i := 6) (v := ?_) rfl (by kernel_rfl) (by kernel_rfl) (by kernel_rfl) (fun _ _ _ h => h) (Or.inl ⟨by rfl, ?_⟩) (by assumption) ?_
      rotate_left
      · intro w hSw; (try dsimp only at hSw); go_simp; (try with_reducible rfl)
      rotate_left
      simp only [Act.put, List.setIfInBounds_toArray, List.set_cons_zero, List.set_cons_succ, List.getElem_toArray, List.getElem_cons_zero, List.getElem_cons_succ]
      refine wpAnyH_take (i := 7) (v := ?_) rfl (by kernel_rfl) (by kernel_rfl) (by kernel_rfl) (fun _ _ _ h => h) (Or.inl ⟨by rfl, ?_⟩) (by assumption) ?_
      rotate_left
      · intro w hSw; (try dsimp only at hSw); go_simp; (try with_reducible rfl)
      rotate_left
      simp only [Act.put, List.setIfInBounds_toArray, List.set_cons_zero, List.set_cons_succ, List.getElem_toArray, List.getElem_cons_zero, List.getElem_cons_succ]
      refine wpAnyH_take (i := 8) (v := ?_) rfl (by kernel_rfl) (by kernel_rfl) (by kernel_rfl) (fun _ _ _ h => h) (Or.inl ⟨by rfl, ?_⟩) (by assumption) ?_
      rotate_left
      · intro w hSw; (try dsimp only at hSw); go_simp; (try with_reducible rfl)
      rotate_left
      simp only [Act.put, List.setIfInBounds_toArray, List.set_cons_zero, List.set_cons_succ, List.getElem_toArray, List.getElem_cons_zero, List.getElem_cons_succ]
      refine wpAnyH_take (i := 9) (v := ?_) rfl (by kernel_rfl) (by kernel_rfl) (by kernel_rfl) (fun _ _ _ h => h) (Or.inl ⟨by rfl, ?_⟩) (by assumption) ?_
      rotate_left
      · intro w hSw; (try dsimp only at hSw); go_simp; (try with_reducible rfl)
      rotate_left
      simp only [Act.put, List.setIfInBounds_toArray, List.set_cons_zero, List.set_cons_succ, List.getElem_toArray, List.getElem_cons_zero, List.getElem_cons_succ]
      refine wpAnyH_take (i := 10) (v := ?_) rfl (by kernel_rfl) (by kernel_rfl) (by kernel_rfl) (fun _ _ _ h => h) (Or.inl ⟨by rfl, ?_⟩) (by assumption) ?_
      rotate_left
      · intro w hSw; (try dsimp only at hSw); go_simp; (try with_reducible rfl)
      rotate_left
      simp only [Act.put, List.setIfInBounds_toArray, List.set_cons_zero, List.set_cons_succ, List.getElem_toArray, List.getElem_cons_zero, List.getElem_cons_succ]
      refine wpAnyH_take (i := 11) (v := ?_) rfl (by kernel_rfl) (by kernel_rfl) (by kernel_rfl) (fun _ _ _ h => h) (Or.inl ⟨by rfl, ?_⟩) (by assumption) ?_
      rotate_left
      · intro w hSw; (try dsimp only at hSw); go_simp; (try with_reducible rfl)
      rotate_left
      simp only [Act.put, List.setIfInBounds_toArray, List.set_cons_zero, List.set_cons_succ, List.getElem_toArray, List.getElem_cons_zero, List.getElem_cons_succ]
      refine wpAnyH_take (i := 12) (v := ?_) rfl (by kernel_rfl) (by kernel_rfl) (by kernel_rfl) (fun _ _ _ h => h) (Or.inl ⟨by rfl, ?_⟩) (by assumption) ?_
      rotate_left
      · intro w hSw; (try dsimp only at hSw); go_simp; (try with_reducible rfl)
      rotate_left
      simp only [Act.put, List.setIfInBounds_toArray, List.set_cons_zero, List.set_cons_succ, List.getElem_toArray, List.getElem_cons_zero, List.getElem_cons_succ]
      refine wpAnyH_take (i := 13) (v := ?_) rfl (by kernel_rfl) (by kernel_rfl) (by kernel_rfl) (fun _ _ _ h => h) (Or.inl ⟨by rfl, ?_⟩) (by assumption) ?_
      rotate_left
      · intro w hSw; (try dsimp only at hSw); go_simp; (try with_reducible rfl)
      rotate_left
      simp only [Act.put, List.setIfInBounds_toArray, List.set_cons_zero, List.set_cons_succ, List.getElem_toArray, List.getElem_cons_zero, List.getElem_cons_succ]
      refine wpAnyH_take (i := 14) (v := ?_) rfl (by kernel_rfl) (by kernel_rfl) (by kernel_rfl) (fun _ _ _ h => h) (Or.inl ⟨by rfl, ?_⟩) (by assumption) ?_
      rotate_left
      · intro w hSw; (try dsimp only at hSw); go_simp; (try with_reducible rfl)
      rotate_left
      simp only [Act.put, List.setIfInBounds_toArray, List.set_cons_zero, List.set_cons_succ, List.getElem_toArray, List.getElem_cons_zero, List.getElem_cons_succ]
      refine wpAnyH_take (i := 15) (v := ?_) rfl (by kernel_rfl) (by kernel_rfl) (by kernel_rfl) (fun _ _ _ h => h) (Or.inl ⟨by rfl, ?_⟩) (by assumption) ?_
      rotate_left
      · intro w hSw; (try dsimp only at hSw); go_simp; (try with_reducible rfl)
      rotate_left
      simp only [Act.put, List.setIfInBounds_toArray, List.set_cons_zero, List.set_cons_succ, List.getElem_toArray, List.getElem_cons_zero, List.getElem_cons_succ]
      refine wpAnyH_take (i := 16) (v := ?_) rfl (by kernel_rfl) (by kernel_rfl) (by kernel_rfl) (fun _ _ _ h => h) (Or.inl ⟨by rfl, ?_⟩) (by assumption) ?_
      rotate_left
      · intro w hSw; (try dsimp only at hSw); go_simp; (try with_reducible rfl)
      rotate_left
      simp only [Act.put, List.setIfInBounds_toArray, List.set_cons_zero, List.set_cons_succ, List.getElem_toArray, List.getElem_cons_zero, List.getElem_cons_succ]
      refine wpAnyH_take (i := 17) (v := ?_) rfl (by kernel_rfl) (by kernel_rfl) (by kernel_rfl) (fun _ _ _ h => h) (Or.inl ⟨by rfl, ?_⟩) (by assumption) ?_
      rotate_left
      · intro w hSw; (try dsimp only at hSw); go_simp; (try with_reducible rfl)
      rotate_left
      simp only [Act.put, List.setIfInBounds_toArray, List.set_cons_zero, List.set_cons_succ, List.getElem_toArray, List.getElem_cons_zero, List.getElem_cons_succ]
      refine wpAnyH_take (i := 18) (v := ?_) rfl (by kernel_rfl) (by kernel_rfl) (by kernel_rfl) (fun _ _ _ h => h) (Or.inl ⟨by rfl, ?_⟩) (by assumption) ?_
      rotate_left
      · intro w hSw; (try dsimp only at hSw); go_simp; (try with_reducible rfl)
      rotate_left
      simp only [Act.put, List.setIfInBounds_toArray, List.set_cons_zero, List.set_cons_succ, List.getElem_toArray, List.getElem_cons_zero, List.getElem_cons_succ]
      refine wpAnyH_take (i := 19) (v := ?_) rfl (by kernel_rfl) (by kernel_rfl) (by kernel_rfl) (fun _ _ _ h => h) (Or.inl ⟨by rfl, ?_⟩) (by assumption) ?_
      rotate_left
      · intro w hSw; (try dsimp only at hSw); go_simp; (try with_reducible rfl)
      rotate_left
      simp only [Act.put, List.setIfInBounds_toArray, List.set_cons_zero, List.set_cons_succ, List.getElem_toArray, List.getElem_cons_zero, List.getElem_cons_succ]
      refine wpAnyH_ready (rs := [20]) (by kernel_rfl) (by simp) ?_
      refine AllReadyH.cons rfl (fun K hK => ?_) ?_
      · go_simp
        refine (insS x.p x.a x.b x.c _).mono ?_
        rintro e w1 ⟨rfl, hb1⟩
        have hb1' : Below w.heap.size w w1 := below_then (below_then hb.out (Below.refl _ _).drew) hb1
        have O1 : Hid (w1.ownsRow w.heap.size 90 4 (.slice an k cn) k ((L.take k).flatMap Is.cells)) := row_below (row_below ho.out (Below.refl _ _).drew) hb1
        have HB1 := Hid.mk hb1'
        have hs1 := hb1'.size
        clear hb1 hb1'
        refine hK.out _ _ ?_ (fun hHeld => ?_)
        · exact ⟨cell_keep HB1.out KC.out.1, cell_keep HB1.out KC.out.2.1, cell_keep HB1.out KC.out.2.2.1, cell_keep HB1.out KC.out.2.2.2⟩
        clear hK K
        (try simp only [Act.put, List.setIfInBounds_toArray, List.set_cons_zero, List.set_cons_succ, List.getElem_toArray, List.getElem_cons_zero, List.getElem_cons_succ])
        refine wpAnyH_ready (rs := [21]) (by kernel_rfl) (by simp) ?_
        refine AllReadyH.cons rfl (fun K hK => ?_) ?_
        · go_simp
          refine hK.out _ _ ?_ (fun hHeld => ?_)
          · go_keep
          clear hK K
          (try simp only [Act.put, List.setIfInBounds_toArray, List.set_cons_zero, List.set_cons_succ, List.getElem_toArray, List.getElem_cons_zero, List.getElem_cons_succ])
          refine wpAnyH_ready (rs := [22]) (by kernel_rfl) (by simp) ?_
          refine AllReadyH.cons rfl (fun K hK => ?_) ?_
          · rw [if_pos (by rfl)]
            refine wp_append_own _ _ _ 46 rfl w.heap.size 90 i0 (.agg #[.int .i64 0, .int .i64 0, .int .i64 0, .int .i64 0]) 4 32 Tryd.underlying46 hi hz0 hz1 hz2 rfl (by decide) _ _ _ rfl (O1.out.alloc _) ⟨w1.heap.size, 0, none⟩ 1 1 x.cells rfl rfl (cells_of_blk (blk_new _ _)) (by intro u hu; simp only [Is.cells, List.mem_cons, List.not_mem_nil, or_false] at hu; rcases hu with rfl | rfl | rfl | rfl <;> rfl) (by unfold maxLen; omega) (by omega) (by simp; omega) ?_
            intro v4 w4 hown4 hgrow4 _
            have HB5 : Hid (Below w.heap.size w w4) := (below_alloc' HB1.out _).grown hgrow4 (by simp; omega) (fun j hj => (O1.out.lt j hj).1)
            have HO5 : Hid (w4.ownsRow w.heap.size 90 4 v4 (k + 1) ((L.take (k + 1)).flatMap Is.cells)) := by unfold Hid; rw [hst.out]; exact hown4
            have f0 := cell_keep HB5.out KC.out.1
            have f1 := cell_keep HB5.out KC.out.2.1
            have f2 := cell_keep HB5.out KC.out.2.2.1
            have f3 := cell_keep HB5.out KC.out.2.2.2
            clear hown4 hgrow4
            refine hK.out _ _ ?_ (fun hHeld => ?_)
            · exact ⟨f0, f1, f2, f3⟩
            clear hK K
            (try simp only [Act.put, List.setIfInBounds_toArray, List.set_cons_zero, List.set_cons_succ, List.getElem_toArray, List.getElem_cons_zero, List.getElem_cons_succ])
            refine wpAnyH_ready (rs := [23]) (by kernel_rfl) (by simp) ?_
            refine AllReadyH.cons rfl (fun K hK => ?_) ?_
            · go_simp
              refine hK.out _ _ ?_ (fun hHeld => ?_)
              · exact ⟨f0, f1, f2, f3⟩
              clear hK K
              (try simp only [Act.put, List.setIfInBounds_toArray, List.set_cons_zero, List.set_cons_succ, List.getElem_toArray, List.getElem_cons_zero, List.getElem_cons_succ])
              refine wpAnyH_done (by kernel_rfl) ?_ _
              go_wp2
              refine ⟨⟨k + 1, q + 4, by omega, by have := HQ.out; show q + 4 = 4 * (k + 1); omega, by first | go_num | omega, HO5, HB5⟩, by simp [intOf]; omega⟩
            exact AllReadyH.nil
          exact AllReadyH.nil
        exact AllReadyH.nil
      exact AllReadyH.nil
    · have u4 : decide ((q : Int) + 4 ≤ (N : Int)) = false := by simp; omega
      have u5 : decide (q + 4 ≤ N) = false := by simp; omega
      have u6 : N < q + 4 := by omega
      obtain rfl : k = L.length := by omega
      clear hqv
      go_wp2
      go_ret
      refine ⟨_, rfl, ?_, hb.out⟩
      have := ho.out
      rwa [List.take_length] at this
end Go.Proofs.YtdhnjkcebaahcaaDoor.Dec
