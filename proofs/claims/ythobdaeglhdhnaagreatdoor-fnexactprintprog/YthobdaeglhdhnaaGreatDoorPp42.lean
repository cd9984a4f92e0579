import Derived.Test.YthobdaeglhdhnaaGreatDoorPp26
import Derived.Test.YthobdaeglhdhnaaGreatDoorPp41
namespace Go.Proofs.YthobdaeglhdhnaaGreatDoor.LawP
open Go Go.RowKit Go.Proofs.YthobdaeglhdhnaaGreatDoor.Mem Go.Proofs.YthobdaeglhdhnaaGreatDoor.Syn Go.Proofs.YthobdaeglhdhnaaGreatDoor.OpenP
set_option linter.unusedVariables false
set_option linter.unusedSimpArgs false
attribute [local go_sem ↓] Go.wp_at_zero Go.wp_at_succ

theorem szOp (o : Po) (l : Int) (w : World) (hn : o.n.length ≤ 9223372036854775807) (h0 : 0 ≤ l) (h1 : l ≤ 1048576) : Calls Tryz.prog 53 #[.agg #[.int .i64 o.k, .int .i64 o.v, .string ⟨o.n.toArray⟩], .int .i64 l] w fun e w' => ∃ r : Int, e = .returned (.int .i64 r) ∧ (r < 0 ∨ (0 ≤ r ∧ r ≤ l)) ∧ Below w.heap.size w w' := by
  by_cases h : l - (o.n.length : Int) < 0
  · go_enter Tryz.func53, Tryz.ntmps53
    go_wp2
    go_ret
    exact ⟨-1, rfl, Or.inl (by omega), by go_grown⟩
  · have hd : decide (l - (o.n.length : Int) < 0) = false := by simpa using h
    go_enter Tryz.func53, Tryz.ntmps53
    go_wp2
    go_ret
    exact ⟨l - (o.n.length : Int), rfl, Or.inr (by omega), by go_grown⟩

set_option maxHeartbeats 800000 in
theorem szOpS (E : Nat → Po) (a : Option Addr) (n cap : Nat) (l : Int) (w : World) (hs : SliceAt w a n 3 (fun i => (E i).cells)) (hn : n ≤ 9223372036854775807) (hE : ∀ i, i < n → (E i).n.length ≤ 9223372036854775807) (h0 : 0 ≤ l) (h1 : l ≤ 1048576) :
    Calls Tryz.prog 37 #[.slice a n cap, .int .i64 l] w fun e w' => ∃ r : Int, e = .returned (.int .i64 r) ∧ (r < 0 ∨ (0 ≤ r ∧ r + (n : Int) ≤ l)) ∧ Below w.heap.size w w' := by
  have H := Hid.mk hs
  have HE := Hid.mk hE
  clear hs hE
  by_cases h : l - (n : Int) < 0
  · go_enter Tryz.func37, Tryz.ntmps37
    go_wp2
    go_ret
    exact ⟨-1, rfl, Or.inl (by omega), Below.refl _ _⟩
  · have hd : decide (l - (n : Int) < 0) = false := by simpa using h
    go_enter Tryz.func37, Tryz.ntmps37
    go_wp2
    go_loopw [1, 5] (fun m i wr => ∃ (k : Nat) (r : Int), k ≤ n ∧ i = .int .i64 (k : Int) ∧ m = .int .i64 r ∧ 0 ≤ r ∧ r ≤ l - (n : Int) ∧ Hid (Below w.heap.size w wr)) (fun _ i _ => n - (intOf i).toNat)
    case atStart => exact ⟨0, l - (n : Int), Nat.zero_le _, rfl, rfl, by omega, by omega, Below.refl _ _⟩
    case round =>
      obtain ⟨k, r, hk, rfl, rfl, r0, r1, hb⟩ := hrel
      by_cases hlt : k < n
      · rcases H.out with h0 | ⟨b, off, rfl, h0⟩
        · omega
        obtain ⟨e0, e1, e2⟩ := Po.at (rangeAt_below (h0 k hlt) hb.out)
        clear h0
        have k0 : (0 : Int) ≤ (k : Int) := by omega
        have k1 : (k : Int) < (n : Int) := by omega
        have hEk := HE.out k hlt
        generalize E k = o at e0 e1 e2 hEk
        go_wp2_with fail
        clear e0 e1 e2
        refine (szOp o r _ hEk r0 (by omega)).mono ?_
        rintro e w1 ⟨q, rfl, hq, hb1⟩
        have B1 := Hid.mk (below_then hb.out hb1)
        clear hb1 hb
        rcases hq with hq | ⟨q0, q1⟩
        · go_wp2
          go_ret
          exact ⟨-1, rfl, Or.inl (by omega), B1.out⟩
        · have hq' : decide (q < 0) = false := by simp; omega
          go_wp2
          exact ⟨⟨k + 1, q, by omega, by go_num, rfl, q0, by omega, B1⟩, by simp [intOf]; omega⟩
      · have k1 : decide ((k : Int) < (n : Int)) = false := by simp; omega
        go_wp2
        go_ret
        exact ⟨r, rfl, Or.inr ⟨r0, by omega⟩, hb.out⟩

set_option maxHeartbeats 1600000 in
theorem szItem (i : It) (l : Lo) (z : Int) (w : World) (hi : ItOk w i l) (h0 : 0 ≤ z) (h1 : z ≤ 1048576) :
    Calls Tryz.prog 21 #[.agg #[.int .i64 i.k, .string ⟨i.n.toArray⟩, .slice l.aE i.nE l.cE, .slice l.aF i.nF l.cF, .int .i64 i.K, .int .i64 i.lo, .int .i64 i.hi], .int .i64 z] w fun e w' => ∃ r : Int, e = .returned (.int .i64 r) ∧ (r < 0 ∨ (0 ≤ r ∧ r + ((i.nE : Int) + (i.nF : Int)) ≤ z)) ∧ Below w.heap.size w w' := by
  have H := Hid.mk hi
  have hn := hi.n
  clear hi
  by_cases h : z - (i.n.length : Int) < 0
  · go_enter Tryz.func21, Tryz.ntmps21
    go_wp2
    go_ret
    exact ⟨-1, rfl, Or.inl (by omega), by go_grown⟩
  · have hd : decide (z - (i.n.length : Int) < 0) = false := by simpa using h
    have hB := Hid.mk (below_alloc' (Below.refl w.heap.size w) (.cells #[.int .i64 i.k, .string ⟨i.n.toArray⟩, .slice l.aE i.nE l.cE, .slice l.aF i.nF l.cF, .int .i64 i.K, .int .i64 i.lo, .int .i64 i.hi] 50))
    go_enter Tryz.func21, Tryz.ntmps21
    go_wp2_with fail
    refine (szOpS i.E _ _ _ _ _ (H.out.e.below hB.out) H.out.ne H.out.se (by omega) (by omega)).mono ?_
    rintro e w1 ⟨q, rfl, hq, hb1⟩
    have B1 := Hid.mk (below_then hB.out hb1)
    have A1 := Hid.mk (blk_below (blk_new w _) hb1)
    clear hb1 hB
    rcases hq with hq | ⟨q0, q1⟩
    · go_wp2
      go_ret
      exact ⟨-1, rfl, Or.inl (by omega), B1.out⟩
    have hq' : decide (q < 0) = false := by simp; omega
    have x3 := blk_cell A1.out 3
    simp only [List.getElem?_toArray, List.getElem?_cons_zero, List.getElem?_cons_succ] at x3
    go_wp2_with fail
    clear x3
    refine (szOpS i.F _ _ _ _ _ (H.out.f.below B1.out) H.out.nf H.out.sf q0 (by omega)).mono ?_
    rintro e w2 ⟨p, rfl, hp, hb2⟩
    have B2 := Hid.mk (below_then B1.out hb2)
    clear hb2 B1 A1
    rcases hp with hp | ⟨p0, p1⟩
    · go_wp2
      go_ret
      exact ⟨-1, rfl, Or.inl (by omega), B2.out⟩
    have hp' : decide (p < 0) = false := by simp; omega
    go_wp2
    go_ret
    exact ⟨p, rfl, Or.inr ⟨p0, by omega⟩, B2.out⟩

theorem ItOk.below {w w' : World} {i : It} {l : Lo} (h : ItOk w i l) (hb : Below w.heap.size w w') : ItOk w' i l := ⟨h.e.below hb, h.f.below hb, h.n, h.ne, h.nf, h.se, h.sf⟩
set_option maxHeartbeats 1600000 in
theorem szItemS (P : Pr) (a : Option Addr) (cap : Nat) (L : Nat → Lo) (w : World) (hs : PrAt w a P L) (hb0 : PrBd w P L) :
    Calls Tryz.prog 13 #[.slice a P.n cap, .int .i64 1048576] w fun e w' => ∃ r : Int, e = .returned (.int .i64 r) ∧ (r < 0 ∨ (0 ≤ r ∧ r + ((P.n : Int) + (cnt P P.n : Int)) ≤ 1048576)) ∧ Below w.heap.size w w' := by
  have H := Hid.mk hs.s
  have HI := Hid.mk hb0.i
  have hn := hb0.n
  clear hs hb0
  obtain ⟨N, hN⟩ : ∃ N, N = P.n := ⟨_, rfl⟩
  rw [← hN] at H HI hn
  rw [← hN]
  clear hN
  by_cases h : (1048576 : Int) - (N : Int) < 0
  · go_enter Tryz.func13, Tryz.ntmps13
    go_wp2
    go_ret
    exact ⟨-1, rfl, Or.inl (by omega), Below.refl _ _⟩
  · have hd : decide ((1048576 : Int) - (N : Int) < 0) = false := by simpa using h
    go_enter Tryz.func13, Tryz.ntmps13
    go_wp2
    go_loopw [1, 5] (fun m i wr => ∃ (k : Nat) (r : Int), k ≤ N ∧ i = .int .i64 (k : Int) ∧ m = .int .i64 r ∧ 0 ≤ r ∧ r + (cnt P k : Int) ≤ 1048576 - (N : Int) ∧ Hid (Below w.heap.size w wr)) (fun _ i _ => N - (intOf i).toNat)
    case atStart => exact ⟨0, 1048576 - (N : Int), Nat.zero_le _, rfl, rfl, by omega, by simp [cnt], Below.refl _ _⟩
    case round =>
      obtain ⟨k, r, hk, rfl, rfl, r0, r1, hb⟩ := hrel
      by_cases hlt : k < N
      · rcases H.out with h0 | ⟨b, off, rfl, h0⟩
        · omega
        obtain ⟨e0, e1, e2, e3, e4, e5, e6⟩ := It.at (rangeAt_below (h0 k hlt) hb.out)
        clear h0
        have k0 : (0 : Int) ≤ (k : Int) := by omega
        have k1 : (k : Int) < (N : Int) := by omega
        have hIk := Hid.mk (ItOk.below (HI.out k hlt) hb.out)
        have hck : Hid (cnt P (k + 1) = cnt P k + ((P.I k).nE + (P.I k).nF)) := rfl
        generalize P.I k = it at e0 e1 e2 e3 e4 e5 e6 hIk hck
        generalize L k = lo at e2 e3 hIk
        go_wp2_with fail
        clear e0 e1 e2 e3 e4 e5 e6
        refine (szItem it lo r _ hIk.out r0 (by omega)).mono ?_
        rintro e w1 ⟨q, rfl, hq, hb1⟩
        have B1 := Hid.mk (below_then hb.out hb1)
        clear hb1 hb
        rcases hq with hq | ⟨q0, q1⟩
        · go_wp2
          go_ret
          exact ⟨-1, rfl, Or.inl (by omega), B1.out⟩
        · have hq' : decide (q < 0) = false := by simp; omega
          go_wp2
          exact ⟨⟨k + 1, q, by omega, by go_num, rfl, q0, by rw [hck.out]; omega, B1⟩, by simp [intOf]; omega⟩
      · obtain rfl : k = N := by omega
        have k1 : decide ((k : Int) < (k : Int)) = false := by simp
        go_wp2
        go_ret
        exact ⟨r, rfl, Or.inr ⟨r0, by omega⟩, hb.out⟩
theorem szProg (P : Pr) (a : Option Addr) (c : Nat) (L : Nat → Lo) (w : World) (hs : PrAt w a P L) (hb0 : PrBd w P L) :
    Calls Tryz.prog 4 #[.agg #[.slice a P.n c], .int .i64 1048576] w fun e w' => ∃ r : Int, e = .returned (.int .i64 r) ∧ (r < 0 ∨ (0 ≤ r ∧ r ≤ 1048576 ∧ P.n ≤ 1048576 ∧ cnt P P.n ≤ 1048576)) ∧ Below w.heap.size w w' := by
  have hB := Hid.mk (below_alloc' (Below.refl w.heap.size w) (.cells #[.slice a P.n c] 24))
  go_enter Tryz.func4, Tryz.ntmps4
  go_wp2_with fail
  refine (szItemS P a c L _ (hs.below hB.out) ⟨hb0.n, fun k hk => ItOk.below (hb0.i k hk) hB.out⟩).mono ?_
  rintro e w1 ⟨q, rfl, hq, hb1⟩
  have B1 := Hid.mk (below_then hB.out hb1)
  clear hb1 hB
  rcases hq with hq | ⟨q0, q1⟩
  · go_wp2
    go_ret
    exact ⟨-1, rfl, Or.inl (by omega), B1.out⟩
  have hq' : decide (q < 0) = false := by simp; omega
  go_wp2
  go_ret
  exact ⟨q, rfl, Or.inr ⟨q0, by omega, by omega, by omega⟩, B1.out⟩
end Go.Proofs.YthobdaeglhdhnaaGreatDoor.LawP
