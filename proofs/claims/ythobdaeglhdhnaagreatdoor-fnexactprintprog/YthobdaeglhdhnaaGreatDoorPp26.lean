import Derived.Test.YthobdaeglhdhnaaGreatDoorPp15
namespace Go.Proofs.YthobdaeglhdhnaaGreatDoor.Syn
open Go Go.RowKit Go.Proofs.YthobdaeglhdhnaaGreatDoor.Mem
set_option linter.unusedVariables false
set_option linter.unusedSimpArgs false
attribute [local go_sem ↓] Go.wp_at_zero Go.wp_at_succ

set_option maxHeartbeats 3200000 in
set_option maxRecDepth 100000 in
theorem itemI (i : It) (l : Lo) (w : World) (hE : SliceAt w l.aE i.nE 3 (fun j => (i.E j).cells)) (hF : SliceAt w l.aF i.nF 3 (fun j => (i.F j).cells)) (hnE : i.nE ≤ 1000000) (hnF : i.nF ≤ 1000000) (hT : Tabs w) (hS : TabS w) :
    Calls Tryz.prog 28 #[.agg #[.int .i64 i.k, .string ⟨i.n.toArray⟩, .slice l.aE i.nE l.cE, .slice l.aF i.nF l.cF, .int .i64 i.K, .int .i64 i.lo, .int .i64 i.hi]] w fun e w' => e = .returned (.bool (itB i)) ∧ Below w.heap.size w w' := by
  have HE := Hid.mk hE
  have HF := Hid.mk hF
  have HT := Hid.mk hT
  have HS := Hid.mk hS
  clear hE hF hT hS
  cases hp : inR i.k 1 9 with
  | false =>
    have hv : Hid (itB i = false) := by unfold Hid itB; rw [hp]; rfl
    go_enter Tryz.func28, Tryz.ntmps28
    go_wp2_with (go_at_call 45; refine (inRI _ _ _ _).mono ?_; rintro e w' ⟨rfl, hw⟩; rw [hw]; clear hw)
    go_ret
    rw [hv.out]
    exact ⟨rfl, by go_grown⟩
  | true =>
    have hk := (inR_iff i.k 1 9).1 hp
    obtain ⟨m, hm⟩ : ∃ m : Nat, i.k = (m : Int) := ⟨i.k.toNat, by omega⟩
    have m0 : m < 10 := by omega
    have i0 : (0 : Int) ≤ (m : Int) := by omega
    have i1 : (m : Int) < 10 := by omega
    obtain ⟨t0, t1, t2, t3, t4, t5⟩ := HS.out m m0
    have g5 := lt_of_cell t0
    obtain ⟨b0, b1, b2, b3, b4, b5⟩ := sh_bd m m0
    have hv : Hid (itB i = (nmB i.n (sh m).n && (exB i.E i.nE (sh m).e && (exB i.F i.nF (sh m).f && (fldB i.K (sh m).k && (fldB i.lo (sh m).lo && fldB i.hi (sh m).hi)))))) := by
      unfold Hid itB
      rw [hp, hm, Int.toNat_natCast, Bool.true_and]
    rw [hm] at hp
    rw [hm]
    clear hm hk
    obtain ⟨W, hW⟩ : ∃ W : World, W = (w.alloc (.cells #[.int .i64 (m : Int), .string ⟨i.n.toArray⟩, .slice l.aE i.nE l.cE, .slice l.aF i.nF l.cF, .int .i64 i.K, .int .i64 i.lo, .int .i64 i.hi] 42)).alloc (.cells #[.bool (sh m).n, .bool (sh m).e, .bool (sh m).f, .int .i64 (sh m).k, .int .i64 (sh m).lo, .int .i64 (sh m).hi] 78) := ⟨_, rfl⟩
    have hBW : Hid (Below w.heap.size w W) := by unfold Hid; rw [hW]; go_grown
    have B0 : Hid (W.heap[w.heap.size]? = some (.cells #[.int .i64 (m : Int), .string ⟨i.n.toArray⟩, .slice l.aE i.nE l.cE, .slice l.aF i.nF l.cF, .int .i64 i.K, .int .i64 i.lo, .int .i64 i.hi] 42)) := by unfold Hid; rw [hW]; exact blk_alloc (blk_new w _) _
    have B1 : Hid (W.heap[w.heap.size + 1]? = some (.cells #[.bool (sh m).n, .bool (sh m).e, .bool (sh m).f, .int .i64 (sh m).k, .int .i64 (sh m).lo, .int .i64 (sh m).hi] 78)) := by unfold Hid; rw [hW]; exact blk_new1 w _ _
    go_enter Tryz.func28, Tryz.ntmps28
    go_wp2_with (go_at_call 45; refine (inRI _ _ _ _).mono ?_; rintro e w' ⟨rfl, hw⟩; rw [hw]; clear hw)
    rw [← hW]
    clear hW t0 t1 t2 t3 t4 t5
    refine (itemNameI i.n _ _ (HT.out.t.below hBW.out)).mono ?_
    rintro e w1 ⟨rfl, hw⟩
    rw [hw]
    clear hw
    have z0 := blk_lt B0.out
    cases o1 : nmB i.n (sh m).n with
    | false =>
      go_wp2
      go_ret
      exact ⟨ret_b (by rw [hv.out]; simp [o1]), hBW.out⟩
    | true =>
      have x2 := blk_cell B0.out 2
      have y1 := blk_cell B1.out 1
      simp only [List.getElem?_toArray, List.getElem?_cons_zero, List.getElem?_cons_succ] at x2 y1
      go_wp2_with fail
      clear x2 y1
      refine (validExprI i.E _ _ _ _ _ (HE.out.below hBW.out) hnE (HT.out.below hBW.out)).mono ?_
      rintro e w2 ⟨rfl, hb2⟩
      have hB2 := Hid.mk (below_then hBW.out hb2)
      have C0 := Hid.mk (blk_below B0.out hb2)
      have C1 := Hid.mk (blk_below B1.out hb2)
      clear hb2 hBW B0 B1
      cases o2 : exB i.E i.nE (sh m).e with
      | false =>
        go_wp2
        go_ret
        exact ⟨ret_b (by rw [hv.out]; simp [o2]), hB2.out⟩
      | true =>
        have x3 := blk_cell C0.out 3
        have y2 := blk_cell C1.out 2
        simp only [List.getElem?_toArray, List.getElem?_cons_zero, List.getElem?_cons_succ] at x3 y2
        go_wp2_with fail
        clear x3 y2
        refine (validExprI i.F _ _ _ _ _ (HF.out.below hB2.out) hnF (HT.out.below hB2.out)).mono ?_
        rintro e w3 ⟨rfl, hb3⟩
        have hB3 := Hid.mk (below_then hB2.out hb3)
        have D0 := Hid.mk (blk_below C0.out hb3)
        have D1 := Hid.mk (blk_below C1.out hb3)
        clear hb3 hB2 C0 C1
        cases o3 : exB i.F i.nF (sh m).f with
        | false =>
          go_wp2
          go_ret
          exact ⟨ret_b (by rw [hv.out]; simp [o3]), hB3.out⟩
        | true =>
          have x4 := blk_cell D0.out 4
          have x5 := blk_cell D0.out 5
          have x6 := blk_cell D0.out 6
          have y3 := blk_cell D1.out 3
          have y4 := blk_cell D1.out 4
          have y5 := blk_cell D1.out 5
          simp only [List.getElem?_toArray, List.getElem?_cons_zero, List.getElem?_cons_succ] at x4 x5 x6 y3 y4 y5
          cases o4 : fldB i.K (sh m).k with
          | false =>
            go_wp2_with (go_at_call 48; refine (fieldI _ _ _ (by assumption) (by assumption)).mono ?_; rintro e w' ⟨rfl, hw⟩; rw [hw]; clear hw)
            go_ret
            exact ⟨ret_b (by rw [hv.out]; simp [o4]), hB3.out⟩
          | true =>
            cases o5 : fldB i.lo (sh m).lo with
            | false =>
              go_wp2_with (go_at_call 48; refine (fieldI _ _ _ (by assumption) (by assumption)).mono ?_; rintro e w' ⟨rfl, hw⟩; rw [hw]; clear hw)
              go_ret
              exact ⟨ret_b (by rw [hv.out]; simp [o5]), hB3.out⟩
            | true =>
              go_wp2_with (go_at_call 48; refine (fieldI _ _ _ (by assumption) (by assumption)).mono ?_; rintro e w' ⟨rfl, hw⟩; rw [hw]; clear hw)
              go_ret
              exact ⟨ret_b (by rw [hv.out]; simp [o1, o2, o3, o4, o5]), hB3.out⟩

/-- How many Ops the first k items have. -/
def cnt (P : Pr) : Nat → Nat
  | 0 => 0
  | k + 1 => cnt P k + ((P.I k).nE + (P.I k).nF)
theorem cnt_mono (P : Pr) {k n : Nat} (h : k ≤ n) : cnt P k ≤ cnt P n := by
  induction n with
  | zero => obtain rfl : k = 0 := by omega
            exact Nat.le_refl _
  | succ n ih =>
    by_cases e : k = n + 1
    · rw [e]; exact Nat.le_refl _
    · exact Nat.le_trans (ih (by omega)) (by simp only [cnt]; omega)
theorem cnt_at (P : Pr) {k n : Nat} (h : k < n) : (P.I k).nE + (P.I k).nF ≤ cnt P n := by
  have := cnt_mono P (show k + 1 ≤ n from h)
  simp only [cnt] at this; omega
def prB (P : Pr) : Bool := decide (P.n ≤ 100) && (decide (cnt P P.n ≤ 2000) && allB P.n (fun i => itB (P.I i)))

set_option maxHeartbeats 1600000 in
theorem opCountI (P : Pr) (a : Option Addr) (c : Nat) (L : Nat → Lo) (w : World) (h : PrAt w a P L) (hn : P.n ≤ 1048576) (hc : cnt P P.n ≤ 1048576) :
    Calls Tryz.prog 27 #[.agg #[.slice a P.n c]] w fun e w' => e = .returned (.int .i64 (cnt P P.n : Int)) ∧ Below w.heap.size w w' := by
  have H := Hid.mk h.s
  have HC : Hid (∀ k, k < P.n → cnt P k + ((P.I k).nE + (P.I k).nF) ≤ 1048576) := fun k hk => Nat.le_trans (cnt_mono P (show k + 1 ≤ P.n from hk)) hc
  clear h hc
  obtain ⟨N, hN⟩ : ∃ N, N = P.n := ⟨_, rfl⟩
  rw [← hN] at H HC hn
  rw [← hN]
  clear hN
  go_enter Tryz.func27, Tryz.ntmps27
  go_wp2
  go_loopw [3, 9] (fun m i wr => ∃ k : Nat, k ≤ N ∧ i = .int .i64 (k : Int) ∧ m = .int .i64 (cnt P k : Int) ∧ Hid (Below w.heap.size w wr)) (fun _ i _ => N - (intOf i).toNat)
  case atStart => exact ⟨0, Nat.zero_le _, rfl, rfl, by unfold Hid; go_grown⟩
  case round =>
    obtain ⟨k, hk, rfl, rfl, hb⟩ := hrel
    by_cases hlt : k < N
    · rcases H.out with h0 | ⟨b, off, rfl, h0⟩
      · omega
      obtain ⟨e0, e1, e2, e3, e4, e5, e6⟩ := It.at (rangeAt_below (h0 k hlt) hb.out)
      clear h0
      have k0 : (0 : Int) ≤ (k : Int) := by omega
      have k1 : (k : Int) < (N : Int) := by omega
      have hcb := HC.out k hlt
      have hx : Hid (cnt P (k + 1) = cnt P k + ((P.I k).nE + (P.I k).nF)) := rfl
      obtain ⟨x, hx1⟩ : ∃ x, x = (P.I k).nE := ⟨_, rfl⟩
      obtain ⟨y, hy1⟩ : ∃ y, y = (P.I k).nF := ⟨_, rfl⟩
      obtain ⟨s, hs1⟩ : ∃ s, s = cnt P k := ⟨_, rfl⟩
      rw [← hx1] at e2 hcb hx
      rw [← hy1] at e3 hcb hx
      rw [← hs1] at hcb hx ⊢
      clear hx1 hy1 hs1
      go_wp2
      exact ⟨⟨k + 1, by omega, by go_num, by rw [hx.out]; congr 1, by unfold Hid; exact below_alloc' hb.out _⟩, by simp [intOf]; omega⟩
    · obtain rfl : k = N := by omega
      have k1 : decide ((k : Int) < (k : Int)) = false := by simp
      go_wp2
      go_ret
      exact ⟨rfl, hb.out⟩

theorem prB_false {P : Pr} {k : Nat} (hk : k < P.n) (h : itB (P.I k) = false) : prB P = false := by
  simp [prB, allB_false (f := fun i => itB (P.I i)) hk h]

set_option maxHeartbeats 3200000 in
set_option maxRecDepth 100000 in
theorem validPI (P : Pr) (a : Option Addr) (c : Nat) (L : Nat → Lo) (w : World) (h : PrAt w a P L) (hn : P.n ≤ 1048576) (hc : cnt P P.n ≤ 1048576) (hT : Tabs w) (hS : TabS w) :
    Calls Tryz.prog 17 #[.agg #[.slice a P.n c]] w fun e w' => e = .returned (.bool (prB P)) ∧ Below w.heap.size w w' := by
  have H := Hid.mk h
  have HT := Hid.mk hT
  have HS := Hid.mk hS
  clear h hT hS
  have hB0 := Hid.mk (below_alloc' (Below.refl w.heap.size w) (.cells #[.slice a P.n c] 30))
  by_cases h1 : (100 : Int) < (P.n : Int)
  · have hv : Hid (prB P = false) := by unfold Hid prB; rw [show decide (P.n ≤ 100) = false by simp; omega]; rfl
    go_enter Tryz.func17, Tryz.ntmps17
    go_wp2_with fail
    go_ret
    rw [hv.out]
    exact ⟨rfl, hB0.out⟩
  have d1 : decide ((100 : Int) < (P.n : Int)) = false := by simpa using h1
  have cOK := Hid.mk fun w' (hb : Below w.heap.size w w') => opCountI P a c L w' (H.out.below hb) hn hc
  obtain ⟨q, hq⟩ : ∃ q, q = cnt P P.n := ⟨_, rfl⟩
  have HQ := Hid.mk hq
  rw [← hq] at hc
  clear hq
  by_cases h2 : (2000 : Int) < (q : Int)
  · have hv : Hid (prB P = false) := by unfold Hid prB; rw [← HQ.out, show decide (q ≤ 2000) = false by simp; omega]; simp
    go_enter Tryz.func17, Tryz.ntmps17
    go_wp2_with fail
    refine (cOK.out _ hB0.out).mono ?_
    rintro e w1 ⟨rfl, hb⟩
    rw [← HQ.out]
    have hB1 := Hid.mk (below_then hB0.out hb)
    clear hb
    go_wp2
    go_ret
    rw [hv.out]
    exact ⟨rfl, hB1.out⟩
  have d2 : decide ((2000 : Int) < (q : Int)) = false := by simpa using h2
  have hq2 : q ≤ 2000 := by omega
  go_enter Tryz.func17, Tryz.ntmps17
  go_wp2_with fail
  refine (cOK.out _ hB0.out).mono ?_
  rintro e w1 ⟨rfl, hb⟩
  rw [← HQ.out]
  have hB1 := Hid.mk (below_then hB0.out hb)
  have A1 := Hid.mk (blk_below (blk_new w _) hb)
  clear hb hB0 cOK
  have x0 := blk_cell A1.out 0
  simp only [List.getElem?_toArray, List.getElem?_cons_zero] at x0
  obtain ⟨N, hN⟩ : ∃ N, N = P.n := ⟨_, rfl⟩
  rw [← hN] at x0 h1 d1
  have HN := Hid.mk hN
  rw [← hN]
  clear hN
  go_wp2
  clear x0
  go_loopw [17] (fun i wr => ∃ k : Nat, k ≤ N ∧ i = .int .i64 (k : Int) ∧ Hid (Below w.heap.size w wr) ∧ Hid (allB k (fun i => itB (P.I i)) = true)) (fun i _ => N - (intOf i).toNat)
  case atStart => exact ⟨0, Nat.zero_le _, rfl, hB1, rfl⟩
  case round =>
    obtain ⟨k, hk, rfl, hb, ha⟩ := hrel
    by_cases hlt : k < N
    · have hkP : k < P.n := by rw [← HN.out]; exact hlt
      have hE := Hid.mk ((H.out.e k hkP).below hb.out)
      have hF := Hid.mk ((H.out.f k hkP).below hb.out)
      have hcn : (P.I k).nE + (P.I k).nF ≤ q := by rw [HQ.out]; exact cnt_at P hkP
      have hnE : (P.I k).nE ≤ 1000000 := by omega
      have hnF : (P.I k).nF ≤ 1000000 := by omega
      have hbad : Hid (itB (P.I k) = false → prB P = false) := prB_false hkP
      have hgood : Hid (itB (P.I k) = true → allB (k + 1) (fun i => itB (P.I i)) = true) := fun h => allB_succ ha.out h
      rcases H.out.s with h0 | ⟨b, off, rfl, h0⟩
      · omega
      obtain ⟨e0, e1, e2, e3, e4, e5, e6⟩ := It.at (rangeAt_below (h0 k hkP) hb.out)
      clear h0
      have k0 : (0 : Int) ≤ (k : Int) := by omega
      have k1 : (k : Int) < (N : Int) := by omega
      generalize P.I k = it at e0 e1 e2 e3 e4 e5 e6 hE hF hcn hnE hnF hbad hgood
      generalize L k = lo at e2 e3 hE hF
      have hbA := Hid.mk (below_alloc' hb.out (.cells #[.int .i64 it.k, .string ⟨it.n.toArray⟩, .slice lo.aE it.nE lo.cE, .slice lo.aF it.nF lo.cF, .int .i64 it.K, .int .i64 it.lo, .int .i64 it.hi] 42))
      have hbI := Hid.mk ((Below.refl wr.heap.size wr).alloc (Nat.le_refl _) (.cells #[.int .i64 it.k, .string ⟨it.n.toArray⟩, .slice lo.aE it.nE lo.cE, .slice lo.aF it.nF lo.cF, .int .i64 it.K, .int .i64 it.lo, .int .i64 it.hi] 42))
      go_wp2_with fail
      clear e0 e1 e2 e3 e4 e5 e6
      refine (itemI it lo _ (hE.out.below hbI.out) (hF.out.below hbI.out) hnE hnF (HT.out.below hbA.out) (HS.out.below hbA.out)).mono ?_
      rintro e w2 ⟨rfl, hb2⟩
      have hb3 := Hid.mk (below_then hbA.out hb2)
      clear hb2 hbA hbI hb
      cases hg : itB it with
      | false =>
        have hv := Hid.mk (hbad.out hg)
        go_wp2
        go_ret
        rw [hv.out]
        exact ⟨rfl, hb3.out⟩
      | true =>
        have hv := Hid.mk (hgood.out hg)
        go_wp2
        exact ⟨⟨k + 1, by omega, by go_num, hb3, hv⟩, by simp [intOf]; omega⟩
    · obtain rfl : k = N := by omega
      have k1 : decide ((k : Int) < (k : Int)) = false := by simp
      have hv : Hid (prB P = true) := by
        have e1 := HN.out
        have e2 := HQ.out
        have e3 := ha.out
        rw [e1] at e3
        unfold Hid prB
        rw [e3, ← e2, ← e1]
        simp only [Bool.and_true, Bool.and_eq_true, decide_eq_true_eq]
        exact ⟨by omega, hq2⟩
      go_wp2
      go_ret
      rw [hv.out]
      exact ⟨rfl, hb.out⟩
end Go.Proofs.YthobdaeglhdhnaaGreatDoor.Syn
