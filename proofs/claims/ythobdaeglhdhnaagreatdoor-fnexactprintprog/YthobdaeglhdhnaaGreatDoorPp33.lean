import Derived.Test.YthobdaeglhdhnaaGreatDoorPp32
namespace Go.Proofs.YthobdaeglhdhnaaGreatDoor.Syn
open Go Go.RowKit Go.Proofs.YthobdaeglhdhnaaGreatDoor.Mem
set_option linter.unusedVariables false
set_option linter.unusedSimpArgs false
attribute [local go_sem ↓] Go.wp_at_zero Go.wp_at_succ

theorem goodItemS (i : It) (l : Lo) (w : World) (hE : SliceAt w l.aE i.nE 3 (fun j => (i.E j).cells)) (hF : SliceAt w l.aF i.nF 3 (fun j => (i.F j).cells)) (hnE : i.nE ≤ 1000000) (hnF : i.nF ≤ 1000000) :
    Calls Tryz.prog 22 #[.agg #[.int .i64 i.k, .string ⟨i.n.toArray⟩, .slice l.aE i.nE l.cE, .slice l.aF i.nF l.cF, .int .i64 i.K, .int .i64 i.lo, .int .i64 i.hi]] w fun e w' => e = .returned (.bool (itB i)) ∧ Below w.heap.size w w' := by
  obtain ⟨k, n, nE, nF, E, F, K, lo, hi⟩ := i
  obtain ⟨aE, aF, cE, cF⟩ := l
  simp only at *
  by_cases hk : 1 ≤ k ∧ k ≤ 9
  · have : k = 1 ∨ k = 2 ∨ k = 3 ∨ k = 4 ∨ k = 5 ∨ k = 6 ∨ k = 7 ∨ k = 8 ∨ k = 9 := by omega
    rcases this with rfl | rfl | rfl | rfl | rfl | rfl | rfl | rfl | rfl
    · exact good1 n nE nF E F K lo hi aE aF cE cF w hE hF hnE hnF
    · exact good2 n nE nF E F K lo hi aE aF cE cF w hE hF hnE hnF
    · exact good3 n nE nF E F K lo hi aE aF cE cF w hE hF hnE hnF
    · exact good4 n nE nF E F K lo hi aE aF cE cF w hE hF hnE hnF
    · exact good5 n nE nF E F K lo hi aE aF cE cF w hE hF hnE hnF
    · exact good6 n nE nF E F K lo hi aE aF cE cF w hE hF hnE hnF
    · exact good7 n nE nF E F K lo hi aE aF cE cF w hE hF hnE hnF
    · exact good8 n nE nF E F K lo hi aE aF cE cF w hE hF hnE hnF
    · exact good9 n nE nF E F K lo hi aE aF cE cF w hE hF hnE hnF
  · have hp : inR k 1 9 = false := by
      cases h : inR k 1 9 with
      | false => rfl
      | true => exact absurd ((inR_iff k 1 9).1 h) hk
    have hv : Hid (itB ⟨k, n, nE, nF, E, F, K, lo, hi⟩ = false) := by unfold Hid itB; rw [hp]; rfl
    clear hE hF hk
    go_enter Tryz.func22, Tryz.ntmps22
    go_wp2_with (go_at_call 38; refine (inRS _ _ _ _).mono ?_; rintro e w' ⟨rfl, hw⟩; rw [hw]; clear hw)
    go_ret
    rw [hv.out]
    exact ⟨rfl, by go_grown⟩

set_option maxHeartbeats 3200000 in
set_option maxRecDepth 100000 in
theorem validPS (P : Pr) (a : Option Addr) (c : Nat) (L : Nat → Lo) (w : World) (h : PrAt w a P L) (hn : P.n ≤ 1048576) (hc : cnt P P.n ≤ 1048576) :
    Calls Tryz.prog 14 #[.agg #[.slice a P.n c]] w fun e w' => e = .returned (.bool (prB P)) ∧ Below w.heap.size w w' := by
  have H := Hid.mk h
  have HC : Hid (∀ k, k < P.n → cnt P k + ((P.I k).nE + (P.I k).nF) ≤ 1048576) := fun k hk => Nat.le_trans (cnt_mono P (show k + 1 ≤ P.n from hk)) hc
  have HC2 := Hid.mk hc
  clear h hc
  obtain ⟨N, hN⟩ : ∃ N, N = P.n := ⟨_, rfl⟩
  rw [← hN] at hn
  have HN := Hid.mk hN
  rw [← hN]
  clear hN
  go_enter Tryz.func14, Tryz.ntmps14
  go_wp2
  go_loopw [3, 4] (fun m i wr => ∃ k : Nat, k ≤ N ∧ i = .int .i64 (k : Int) ∧ m = .int .i64 (cnt P k : Int) ∧ Hid (wr.heap[w.heap.size]? = some (.cells #[.slice a N c] 30)) ∧ Hid (Below w.heap.size w wr)) (fun _ i _ => N - (intOf i).toNat)
  case atStart => exact ⟨0, Nat.zero_le _, rfl, rfl, blk_new w _, by unfold Hid; go_grown⟩
  case round =>
    obtain ⟨k, hk, rfl, rfl, hA, hb⟩ := hrel
    have x0 := blk_cell hA.out 0
    simp only [List.getElem?_toArray, List.getElem?_cons_zero] at x0
    by_cases hlt : k < N
    · have hkP : k < P.n := by rw [← HN.out]; exact hlt
      rcases H.out.s with h0 | ⟨b, off, rfl, h0⟩
      · omega
      obtain ⟨e0, e1, e2, e3, e4, e5, e6⟩ := It.at (rangeAt_below (h0 k hkP) hb.out)
      clear h0 e0 e1 e4 e5 e6
      have k0 : (0 : Int) ≤ (k : Int) := by omega
      have k1 : (k : Int) < (N : Int) := by omega
      have hcb := HC.out k hkP
      have hx : Hid (cnt P (k + 1) = cnt P k + ((P.I k).nE + (P.I k).nF)) := rfl
      obtain ⟨x, hx1⟩ : ∃ x, x = (P.I k).nE := ⟨_, rfl⟩
      obtain ⟨y, hy1⟩ : ∃ y, y = (P.I k).nF := ⟨_, rfl⟩
      obtain ⟨s, hs1⟩ : ∃ s, s = cnt P k := ⟨_, rfl⟩
      rw [← hx1] at e2 hcb hx
      rw [← hy1] at e3 hcb hx
      rw [← hs1] at hcb hx ⊢
      clear hx1 hy1 hs1
      go_wp2_with fail
      go_quiet (fail)
      go_wp2
      exact ⟨⟨k + 1, by omega, by go_num, by rw [hx.out]; congr 1; omega, hA, below_drewN' hb.out _⟩, by simp [intOf]; omega⟩
    · obtain rfl : k = N := by omega
      have k1 : decide ((k : Int) < (k : Int)) = false := by simp
      obtain ⟨q, hq⟩ : ∃ q, q = cnt P k := ⟨_, rfl⟩
      have HQ : Hid (q = cnt P P.n) := by unfold Hid; rw [hq]; exact congrArg (cnt P) HN.out
      have hqb : q ≤ 1048576 := by rw [HQ.out]; exact HC2.out
      rw [← hq]
      clear hq
      by_cases h1 : (100 : Int) < (k : Int)
      · have hv : Hid (prB P = false) := by unfold Hid prB; rw [← HN.out, show decide (k ≤ 100) = false by simp; omega]; rfl
        go_wp2
        go_ret
        rw [hv.out]
        exact ⟨rfl, hb.out⟩
      have d1 : decide ((100 : Int) < (k : Int)) = false := by simpa using h1
      by_cases h2 : (2000 : Int) < (q : Int)
      · have hv : Hid (prB P = false) := by unfold Hid prB; rw [← HQ.out, show decide (q ≤ 2000) = false by simp; omega]; simp
        go_wp2
        go_ret
        rw [hv.out]
        exact ⟨rfl, hb.out⟩
      have d2 : decide ((2000 : Int) < (q : Int)) = false := by simpa using h2
      have hq2 : q ≤ 2000 := by omega
      have hk100 : k ≤ 100 := by omega
      go_wp2
      clear x0 k1
      go_loopw [5] (fun i wr => ∃ j : Nat, j ≤ k ∧ i = .int .i64 (j : Int) ∧ Hid (wr.heap[w.heap.size]? = some (.cells #[.slice a k c] 30)) ∧ Hid (Below w.heap.size w wr) ∧ Hid (allB j (fun i => itB (P.I i)) = true)) (fun i _ => k - (intOf i).toNat)
      case atStart => exact ⟨0, Nat.zero_le _, rfl, hA, hb, rfl⟩
      case round =>
        clear hA hb
        obtain ⟨j, hj, rfl, hA, hb, ha⟩ := hrel
        have x0 := blk_cell hA.out 0
        simp only [List.getElem?_toArray, List.getElem?_cons_zero] at x0
        by_cases hlt : j < k
        · have hkP : j < P.n := by rw [← HN.out]; exact hlt
          have hE := Hid.mk ((H.out.e j hkP).below hb.out)
          have hF := Hid.mk ((H.out.f j hkP).below hb.out)
          have hcn : (P.I j).nE + (P.I j).nF ≤ q := by rw [HQ.out]; exact cnt_at P hkP
          have hnE : (P.I j).nE ≤ 1000000 := by omega
          have hnF : (P.I j).nF ≤ 1000000 := by omega
          have hbad : Hid (itB (P.I j) = false → prB P = false) := prB_false hkP
          have hgood : Hid (itB (P.I j) = true → allB (j + 1) (fun i => itB (P.I i)) = true) := fun h => allB_succ ha.out h
          rcases H.out.s with h0 | ⟨b, off, rfl, h0⟩
          · omega
          obtain ⟨e0, e1, e2, e3, e4, e5, e6⟩ := It.at (rangeAt_below (h0 j hkP) hb.out)
          clear h0
          have k0 : (0 : Int) ≤ (j : Int) := by omega
          have k1 : (j : Int) < (k : Int) := by omega
          generalize P.I j = it at e0 e1 e2 e3 e4 e5 e6 hE hF hcn hnE hnF hbad hgood
          generalize L j = lo at e2 e3 hE hF
          go_wp2_with fail
          clear e0 e1 e2 e3 e4 e5 e6 x0
          refine (goodItemS it lo _ hE.out hF.out hnE hnF).mono ?_
          rintro e w2 ⟨rfl, hb2⟩
          have hb3 := Hid.mk (below_then hb.out hb2)
          have hA3 := Hid.mk (blk_below hA.out hb2)
          clear hb2 hb hA
          cases hg : itB it with
          | false =>
            have hv := Hid.mk (hbad.out hg)
            go_wp2
            go_ret
            rw [hv.out]
            exact ⟨rfl, hb3.out⟩
          | true =>
            have hv := Hid.mk (hgood.out hg)
            go_wp2
            exact ⟨⟨j + 1, by omega, by go_num, hA3, hb3, hv⟩, by simp [intOf]; omega⟩
        · obtain rfl : j = k := by omega
          have k1 : decide ((j : Int) < (j : Int)) = false := by simp
          have hv : Hid (prB P = true) := by
            have e1 := HN.out
            have e2 := HQ.out
            have e3 := ha.out
            rw [e1] at e3
            unfold Hid prB
            rw [e3, ← e2, ← e1]
            simp only [Bool.and_true, Bool.and_eq_true, decide_eq_true_eq]
            exact ⟨by omega, hq2⟩
          go_wp2
          go_ret
          rw [hv.out]
          exact ⟨rfl, hb.out⟩
end Go.Proofs.YthobdaeglhdhnaaGreatDoor.Syn
