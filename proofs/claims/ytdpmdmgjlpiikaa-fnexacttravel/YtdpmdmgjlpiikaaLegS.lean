import Derived.Test.YtdpmdmgjlpiikaaTravelMath
import Derived.Deep.DrawnRows
import Derived.Lib.QuietBelow
namespace Go.Proofs.Ytdpmdmgjlpiikaa.Travel
open Go Go.RowKit Go.Sort Go.Proofs.Ytdpmdmgjlpiikaa.Mem Go.Proofs.Ytdpmdmgjlpiikaa.Valid
set_option linter.unusedVariables false
attribute [local go_sem ↓] Go.wp_at_zero Go.wp_at_succ

set_option maxHeartbeats 4000000 in
set_option maxRecDepth 100000 in
theorem legS (a1 a2 a3 : Option Addr) (c1 c2 c3 : Nat) (I : In) (a b : Int) (w : World) (h : InAt w a1 a2 a3 I) (hv : validB I = true) (na0 : 0 ≤ a) (na1 : a ≤ nodes I - 1) (nb0 : 0 ≤ b) (nb1 : b ≤ nodes I - 1) :
    Calls Try.prog 44 #[.agg #[.slice a1 I.nV c1, .slice a2 I.nQ c2, .slice a3 I.nR c3], .int .i64 a, .int .i64 b] w fun e w' => e = .returned (.int .i64 (legV I a b)) ∧ Below w.heap.size w w' := by
  have H := Hid.mk h
  have HV := Hid.mk hv
  obtain ⟨l1, l2, l3⟩ := lens_bd (validB_parts hv).1
  clear h hv
  by_cases hab : a = b
  · rw [leg_same hab]
    have hab' : (a == b) = true := by simpa using hab
    clear hab
    go_enter Try.func44, Try.ntmps44
    go_wp2
    go_ret
    exact ⟨rfl, by go_grown⟩
  have hab' : (a == b) = false := by simpa using hab
  have HAB := Hid.mk hab
  clear hab
  go_enter Try.func44, Try.ntmps44
  go_wp2
  go_loop [7] (fun i => ∃ k : Nat, k ≤ I.nR ∧ i = .int .i64 k ∧ Hid (∀ x, x < k → hit I a b x = false)) (fun i => I.nR - (intOf i).toNat)
  case atStart => exact ⟨0, Nat.zero_le _, rfl, fun x hx => absurd hx (Nat.not_lt_zero _)⟩
  case round =>
    obtain ⟨k, hk, rfl, hx⟩ := hrel
    by_cases hlt : k < I.nR
    · rcases H.out.r with hs | ⟨rb, off, rfl, hs⟩
      · omega
      obtain ⟨e0, e1, e2⟩ := Rd.at (hs k hlt)
      have b0 := lt_of_cell e0
      clear hs
      cases g1 : ((I.R k).a == a) with
      | false =>
        have hx' : Hid (∀ x, x < k + 1 → hit I a b x = false) := fun x hxx => by
          by_cases e : x = k
          · rw [e]; simp [hit, g1]
          · exact hx.out x (by omega)
        go_wp2
        exact ⟨⟨k + 1, by omega, by go_num, hx'⟩, by simp [intOf]; omega⟩
      | true =>
        cases g2 : ((I.R k).b == b) with
        | false =>
          have hx' : Hid (∀ x, x < k + 1 → hit I a b x = false) := fun x hxx => by
            by_cases e : x = k
            · rw [e]; simp [hit, g2]
            · exact hx.out x (by omega)
          go_wp2
          exact ⟨⟨k + 1, by omega, by go_num, hx'⟩, by simp [intOf]; omega⟩
        | true =>
          have hl : Hid (legV I a b = (I.R k).t) := leg_hit HAB.out hlt hx.out (by simp only [hit, g1, g2, Bool.and_self])
          go_wp2
          go_ret
          exact ⟨congrArg (fun z => Ending.returned (.int .i64 z)) hl.out.symm, by go_grown⟩
    · have hkn : k = I.nR := by omega
      subst hkn
      have hl : Hid (legV I a b = _) := leg_none HAB.out hx.out
      obtain ⟨pa1, pa2, pa3, pa4⟩ := plOf_ok HV.out na0 na1
      obtain ⟨pb1, pb2, pb3, pb4⟩ := plOf_ok HV.out nb0 nb1
      clear hx hk
      go_wp2_with fail
      refine (placeOfS a1 a2 a3 c1 c2 c3 I a _ (H.out.below (by go_grown)) (by omega) (by omega) na0 na1).mono ?_
      rintro e w1 ⟨rfl, hb1⟩
      have HB1 := Hid.mk (below_then (w := w) (by go_grown) hb1)
      have A1 := Hid.mk (blk_below (blk_new w _) hb1)
      clear hb1
      have x0 := blk_cell A1.out 0
      have x1 := blk_cell A1.out 1
      have x2 := blk_cell A1.out 2
      simp only [List.getElem?_toArray, List.getElem?_cons_zero, List.getElem?_cons_succ] at x0 x1 x2
      have z1 := blk_lt A1.out
      go_wp2_with fail
      clear x0 x1 x2 z1
      refine (placeOfS a1 a2 a3 c1 c2 c3 I b _ (H.out.below (HB1.out.alloc HB1.out.size _)) (by omega) (by omega) nb0 nb1).mono ?_
      rintro e w2 ⟨rfl, hb2⟩
      have HB2 := Hid.mk (below_then (HB1.out.alloc HB1.out.size _) hb2)
      have P2 := Hid.mk (blk_below (blk_new w1 _) hb2)
      clear hb2 A1 HB1
      have z0 := blk_cell P2.out 0
      have z1 := blk_cell P2.out 1
      simp only [List.getElem?_toArray, List.getElem?_cons_zero, List.getElem?_cons_succ] at z0 z1
      have z2 := blk_lt P2.out
      have cx : ∀ W : World, Calls Try.prog 62 #[.int .i64 ((plOf I a).x - (plOf I b).x)] W fun e w' => e = .returned (.int .i64 (ab ((plOf I a).x - (plOf I b).x))) ∧ w' = W := fun W => absS _ W (by omega) (by omega)
      have cy : ∀ W : World, Calls Try.prog 62 #[.int .i64 ((plOf I a).y - (plOf I b).y)] W fun e w' => e = .returned (.int .i64 (ab ((plOf I a).y - (plOf I b).y))) ∧ w' = W := fun W => absS _ W (by omega) (by omega)
      have ax := ab_bd ((plOf I a).x - (plOf I b).x) (by omega) (by omega)
      have ay := ab_bd ((plOf I a).y - (plOf I b).y) (by omega) (by omega)
      go_wp2_with fail
      go_quiet ((first | exact Calls.quiet_of_same (cx _) | exact Calls.quiet_of_same (cy _)))
      go_wp2
      go_ret
      exact ⟨congrArg (fun z => Ending.returned (.int .i64 z)) hl.out.symm, below_drewN' (HB2.out.alloc HB2.out.size _) nq⟩
end Go.Proofs.Ytdpmdmgjlpiikaa.Travel
