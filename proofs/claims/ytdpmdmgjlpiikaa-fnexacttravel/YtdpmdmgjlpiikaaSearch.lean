import Derived.Test.YtdpmdmgjlpiikaaTravel1
import Derived.Deep.DrawnRows
import Derived.Lib.QuietBelow
namespace Go.Proofs.Ytdpmdmgjlpiikaa.Travel
open Go Go.RowKit Go.Sort Go.Proofs.Ytdpmdmgjlpiikaa.Mem Go.Proofs.Ytdpmdmgjlpiikaa.Valid
set_option linter.unusedVariables false
attribute [local go_sem ↓] Go.wp_at_zero Go.wp_at_succ

set_option maxHeartbeats 4000000 in
set_option maxRecDepth 100000 in
theorem search (a3 : Option Addr) (n c3 : Nat) (R : Nat → Rd) (t : Rd) (w : World) (h : SliceAt w a3 n 3 (fun i => (R i).cells)) (hn : n ≤ 1048576) (hmono : ∀ x y, x ≤ y → y < n → cmpR (R y) t < 0 → cmpR (R x) t < 0) :
    Calls Try.prog 63 #[.slice a3 n c3, .agg #[.int .i64 t.a, .int .i64 t.b, .int .i64 t.t], .func (.func 57) #[] #[]] w fun e w' => ∃ (i : Nat), e = .returned (.tuple #[.int .i64 i, .bool (decide (i < n) && (cmpR (R i) t == 0))]) ∧ i ≤ n ∧ (∀ x, x < i → cmpR (R x) t < 0) ∧ (∀ x, i ≤ x → x < n → 0 ≤ cmpR (R x) t) ∧ Below w.heap.size w w' := by
  have H := Hid.mk h
  have HM := Hid.mk hmono
  clear h hmono
  go_enter Try.func63, Try.ntmps63
  go_wp2
  go_loopw [9, 10] (fun i j wr => ∃ p q : Nat, p ≤ q ∧ q ≤ n ∧ i = .int .i64 p ∧ j = .int .i64 q ∧ Hid (Below w.heap.size w wr) ∧ Hid (wr.heap[w.heap.size]? = some (.cells #[.int .i64 t.a, .int .i64 t.b, .int .i64 t.t] 60)) ∧ Hid (∀ x, x < p → cmpR (R x) t < 0) ∧ Hid (∀ x, q ≤ x → x < n → 0 ≤ cmpR (R x) t)) (fun i j _ => (intOf j).toNat - (intOf i).toNat)
  case atStart => exact ⟨0, n, Nat.zero_le _, Nat.le_refl _, rfl, rfl, (Below.refl _ _).alloc (Nat.le_refl _) _, blk_new _ _, fun x hx => absurd hx (Nat.not_lt_zero _), fun x h1 h2 => absurd h2 (Nat.not_lt.2 h1)⟩
  case round =>
    obtain ⟨p, q, hpq, hqn, rfl, rfl, hb, hx, hlo, hhi⟩ := hrel
    by_cases hlt : p < q
    · obtain ⟨m, hm⟩ := Int.eq_ofNat_of_zero_le (show (0 : Int) ≤ ((p : Int) + (q : Int)) / 2 by omega)
      have hmn : m < n := by omega
      have hpm : p ≤ m := by omega
      have hmq : m < q := by omega
      have m0 : (0 : Int) ≤ (m : Int) := by omega
      have m1 : (m : Int) < (n : Int) := by omega
      rcases H.out with hs | ⟨b, off, rfl, hs⟩
      · omega
      obtain ⟨e0, e1, e2⟩ := Rd.at (rangeAt_below (hs m hmn) hb.out)
      have x0 := blk_cell hx.out 0
      have x1 := blk_cell hx.out 1
      have x2 := blk_cell hx.out 2
      simp only [List.getElem?_toArray, List.getElem?_cons_zero, List.getElem?_cons_succ] at x0 x1 x2
      have f0 := cell_regrown e0
      have f1 := cell_regrown e1
      have f2 := cell_regrown e2
      have y0 := cell_regrown x0
      have y1 := cell_regrown x1
      have y2 := cell_regrown x2
      clear hs e0 e1 e2 x0 x1 x2
      have cC : ∀ d os, Calls Try.prog 57 #[.agg #[.int .i64 (R m).a, .int .i64 (R m).b, .int .i64 (R m).t], .agg #[.int .i64 t.a, .int .i64 t.b, .int .i64 t.t]] (grow (redrawn wr d) os) fun e w'' => e = .returned (.int .i64 (cmpR (R m) t)) ∧ ∃ p : Regrown, w'' = grow (redrawn wr p.d) p.os :=
        fun d os => Calls.regrown_of (compareRoads (R m) t _)
      by_cases hc : cmpR (R m) t < 0
      · have hlo' : Hid (∀ x, x < m + 1 → cmpR (R x) t < 0) := fun x hx => HM.out x m (by omega) hmn hc
        go_wp2_with fail
        refine wp_region_quiet_below (by kernel_rfl) (by kernel_rfl) ?_
        repeat (first | go_big_quiet_step (exact cC _ _) | quiet_step (exact cC _ _))
        refine wpQuiet_nil ?_
        intro _ hw'
        obtain ⟨⟨dq, osq⟩, hw''⟩ := hw'
        subst hw''
        go_wp2
        exact ⟨⟨m + 1, q, by omega, hqn, by go_num, rfl, below_then hb.out (below_regrown _ dq osq), blk_below hx.out (below_regrown _ dq osq), hlo', hhi⟩, by simp [intOf]; omega⟩
      · have hhi' : Hid (∀ x, m ≤ x → x < n → 0 ≤ cmpR (R x) t) := fun x h1 h2 => by
          by_cases hz : cmpR (R x) t < 0
          · exact absurd (HM.out m x h1 h2 hz) hc
          · omega
        go_wp2_with fail
        refine wp_region_quiet_below (by kernel_rfl) (by kernel_rfl) ?_
        repeat (first | go_big_quiet_step (exact cC _ _) | quiet_step (exact cC _ _))
        refine wpQuiet_nil ?_
        intro _ hw'
        obtain ⟨⟨dq, osq⟩, hw''⟩ := hw'
        subst hw''
        go_wp2
        exact ⟨⟨p, m, hpm, by omega, rfl, rfl, below_then hb.out (below_regrown _ dq osq), blk_below hx.out (below_regrown _ dq osq), hlo, hhi'⟩, by simp [intOf]; omega⟩
    · have hpq' : q = p := by omega
      subst hpq'
      by_cases hmn : q < n
      · have m0 : (0 : Int) ≤ (q : Int) := by omega
        have m1 : (q : Int) < (n : Int) := by omega
        have m2 : decide ((q : Int) < (n : Int)) = true := by simpa using m1
        rcases H.out with hs | ⟨b, off, rfl, hs⟩
        · omega
        obtain ⟨e0, e1, e2⟩ := Rd.at (rangeAt_below (hs q hmn) hb.out)
        have x0 := blk_cell hx.out 0
        have x1 := blk_cell hx.out 1
        have x2 := blk_cell hx.out 2
        simp only [List.getElem?_toArray, List.getElem?_cons_zero, List.getElem?_cons_succ] at x0 x1 x2
        have f0 := cell_regrown e0
        have f1 := cell_regrown e1
        have f2 := cell_regrown e2
        have y0 := cell_regrown x0
        have y1 := cell_regrown x1
        have y2 := cell_regrown x2
        clear hs e0 e1 e2 x0 x1 x2
        have cC : ∀ d os, Calls Try.prog 57 #[.agg #[.int .i64 (R q).a, .int .i64 (R q).b, .int .i64 (R q).t], .agg #[.int .i64 t.a, .int .i64 t.b, .int .i64 t.t]] (grow (redrawn wr d) os) fun e w'' => e = .returned (.int .i64 (cmpR (R q) t)) ∧ ∃ p : Regrown, w'' = grow (redrawn wr p.d) p.os :=
          fun d os => Calls.regrown_of (compareRoads (R q) t _)
        go_wp2_with fail
        refine wp_region_quiet_below (by kernel_rfl) (by kernel_rfl) ?_
        repeat (first | go_big_quiet_step (exact cC _ _) | quiet_step (exact cC _ _))
        refine wpQuiet_nil ?_
        intro _ hw'
        obtain ⟨⟨dq, osq⟩, hw''⟩ := hw'
        subst hw''
        go_wp2
        go_ret2
        exact ⟨q, by simp [hmn], by omega, hlo.out, hhi.out, below_then hb.out (below_regrown _ dq osq)⟩
      · have m2 : decide ((q : Int) < (n : Int)) = false := by simp; omega
        have m3 : ¬ (q : Int) < (n : Int) := by omega
        go_wp2_with fail
        go_quiet (fail)
        go_wp2
        go_ret2
        exact ⟨q, by simp [hmn], by omega, hlo.out, hhi.out, below_drewN' hb.out nq⟩
end Go.Proofs.Ytdpmdmgjlpiikaa.Travel
