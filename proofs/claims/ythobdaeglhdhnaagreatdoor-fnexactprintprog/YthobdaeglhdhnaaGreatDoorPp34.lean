import Derived.Test.YthobdaeglhdhnaaGreatDoorPp28
import Derived.Test.YthobdaeglhdhnaaGreatDoorPp33
namespace Go.Proofs.YthobdaeglhdhnaaGreatDoor.Syn
open Go Go.RowKit Go.Proofs.YthobdaeglhdhnaaGreatDoor Go.Proofs.YthobdaeglhdhnaaGreatDoor.Mem
open Go.Proofs.YthobdaeglhdhnaaGreatDoor.Print (Own infoB byteCells_one)
set_option linter.unusedVariables false
set_option linter.unusedSimpArgs false
attribute [local go_sem ↓] Go.wp_at_zero Go.wp_at_succ

theorem fld_any {x u : Int} (h : fldB x u = true) : -999999999 ≤ x ∧ x ≤ 999999999 := by
  unfold fldB at h
  split at h
  · simp [inR] at h; omega
  · split at h
    · simp [inR] at h; omega
    · split at h
      · simp [inR] at h; omega
      · simp at h; omega
/-- A valid item's line, by the specification. -/
theorem itemAllS (X : XT) (i : It) (l : Lo) (hv : itB i = true) (hnE : i.nE ≤ 2000) (hnF : i.nF ≤ 2000) (w : World) (hIE : SliceAt w l.aE i.nE 3 (fun j => (i.E j).cells)) (hIF : SliceAt w l.aF i.nF 3 (fun j => (i.F j).cells)) :
    Calls Tryz.prog 15 #[.agg #[.int .i64 i.k, .string ⟨i.n.toArray⟩, .slice l.aE i.nE l.cE, .slice l.aF i.nF l.cF, .int .i64 i.K, .int .i64 i.lo, .int .i64 i.hi]] w fun e w' => ∃ v, e = .returned v ∧ Own w.heap.size w' v (itT i ++ [59, 10]) ∧ Below w.heap.size w w' := by
  obtain ⟨h0, h1, h2, h3, h4, h5, h6⟩ := itB_parts hv
  have hk : i.k = 1 ∨ i.k = 2 ∨ i.k = 3 ∨ i.k = 4 ∨ i.k = 5 ∨ i.k = 6 ∨ i.k = 7 ∨ i.k = 8 ∨ i.k = 9 := by
    simp [inR] at h0; omega
  obtain ⟨K0, K1⟩ := fld_any h4
  obtain ⟨l0, l1⟩ := fld_any h5
  obtain ⟨u0, u1⟩ := fld_any h6
  have t16 : twAt 16 = [108, 101, 116] := rfl
  have t17 : twAt 17 = [101, 97, 99, 104] := rfl
  have t18 : twAt 18 = [101, 110, 100] := rfl
  have t19 : twAt 19 = [115, 117, 109] := rfl
  have t20 : twAt 20 = [110, 101, 118, 101, 114] := rfl
  have t21 : twAt 21 = [97, 112, 97, 114, 116] := rfl
  have t22 : twAt 22 = [108, 105, 102, 111] := rfl
  have t23 : twAt 23 = [114, 105, 100, 101] := rfl
  have t24 : twAt 24 = [115, 116, 114, 101, 97, 107] := rfl
  rcases hk with e | e | e | e | e | e | e | e | e <;> rw [e] at h1 h2 h3 h4 h5 h6 <;> rw [e] <;> clear h0 hv
  · obtain ⟨tE, hE⟩ := ex_tree h2
    have key := itemS1 X i l w tE hE (nm_len h1) K0 K1 l0 l1 u0 u1 hnE hnF hIE hIF
    refine key.mono ?_
    rintro e' w' ⟨v, rfl, ho, hb⟩
    exact ⟨v, rfl, by simpa [itT, e, spanT, t16, exprT_eq hE] using ho, hb⟩
  · obtain ⟨tE, hE⟩ := ex_tree h2
    have key := itemS2 X i l w tE hE K0 K1 l0 l1 u0 u1 hnE hnF hIE hIF
    refine key.mono ?_
    rintro e' w' ⟨v, rfl, ho, hb⟩
    exact ⟨v, rfl, by simpa [itT, e, spanT, t17, exprT_eq hE] using ho, hb⟩
  · obtain ⟨tE, hE⟩ := ex_tree h2
    have key := itemS3 X i l w tE hE K0 K1 l0 l1 u0 u1 hnE hnF hIE hIF
    refine key.mono ?_
    rintro e' w' ⟨v, rfl, ho, hb⟩
    exact ⟨v, rfl, by simpa [itT, e, spanT, t18, exprT_eq hE] using ho, hb⟩
  · obtain ⟨tE, hE⟩ := ex_tree h2
    have key := itemS4 X i l w tE hE K0 K1 l0 l1 u0 u1 hnE hnF hIE hIF
    refine key.mono ?_
    rintro e' w' ⟨v, rfl, ho, hb⟩
    exact ⟨v, rfl, by simpa [itT, e, spanT, t19, exprT_eq hE] using ho, hb⟩
  · obtain ⟨tE, hE⟩ := ex_tree h2
    obtain ⟨tF, hF⟩ := ex_tree h3
    have key := itemS5 X i l w tE hE tF hF K0 K1 l0 l1 u0 u1 hnE hnF hIE hIF
    refine key.mono ?_
    rintro e' w' ⟨v, rfl, ho, hb⟩
    exact ⟨v, rfl, by simpa [itT, e, spanT, t20, exprT_eq hE, exprT_eq hF] using ho, hb⟩
  · have key := itemS6 X i l w (fld1 h4).1 (fld1 h4).2 (fld1 h5).1 (fld1 h5).2 K0 K1 l0 l1 u0 u1 hnE hnF hIE hIF
    refine key.mono ?_
    rintro e' w' ⟨v, rfl, ho, hb⟩
    exact ⟨v, rfl, by simpa [itT, e, spanT, t21] using ho, hb⟩
  · have key := itemS7 X i l w  K0 K1 l0 l1 u0 u1 hnE hnF hIE hIF
    refine key.mono ?_
    rintro e' w' ⟨v, rfl, ho, hb⟩
    exact ⟨v, rfl, by simpa [itT, e, spanT, t22] using ho, hb⟩
  · obtain ⟨tE, hE⟩ := ex_tree h2
    have key := itemS8 X i l w tE hE K0 K1 l0 l1 u0 u1 hnE hnF hIE hIF
    refine key.mono ?_
    rintro e' w' ⟨v, rfl, ho, hb⟩
    exact ⟨v, rfl, by simpa [itT, e, spanT, t23, exprT_eq hE] using ho, hb⟩
  · obtain ⟨tE, hE⟩ := ex_tree h2
    have key := itemS9 X i l w tE hE K0 K1 l0 l1 u0 u1 hnE hnF hIE hIF
    refine key.mono ?_
    rintro e' w' ⟨v, rfl, ho, hb⟩
    exact ⟨v, rfl, by simpa [itT, e, spanT, t24, exprT_eq hE] using ho, hb⟩
set_option maxHeartbeats 3200000 in
set_option maxRecDepth 100000 in
theorem printPS (X : XT) (P : Pr) (a : Option Addr) (c : Nat) (L : Nat → Lo) (w : World) (h : PrAt w a P L) (hn : P.n ≤ 1048576) (hc : cnt P P.n ≤ 1048576) :
    Calls Tryz.prog 5 #[.agg #[.slice a P.n c]] w fun e w' => ∃ v', e = .returned v' ∧ Own w.heap.size w' v' (prnT P) ∧ Below w.heap.size w w' := by
  have H := Hid.mk h
  have HX := Hid.mk X
  have vOK := Hid.mk fun w' (hb : Below w.heap.size w w') => validPS P a c L w' (h.below hb) hn hc
  clear h X
  have hB0 := Hid.mk (below_alloc' ((Below.refl w.heap.size w).alloc (Nat.le_refl _) (.cells #[.slice a P.n c] 30)) (.cells #[] 5))
  have ho0 : Hid (Own w.heap.size ((w.alloc (.cells #[.slice a P.n c] 30)).alloc (.cells #[] 5)) (.slice (some ⟨w.heap.size + 1, 0, none⟩) 0 0) []) := Joins.ownsRow_le (own_empty1 w _) (Nat.le_succ _)
  go_enter Tryz.func5, Tryz.ntmps5
  go_wp2_with fail
  refine (vOK.out _ hB0.out).mono ?_
  rintro e w1 ⟨rfl, hb⟩
  have HB := Hid.mk (below_then hB0.out hb)
  have HO := Hid.mk (own_bel' ho0.out hb)
  have A1 := Hid.mk (blk_below (blk_alloc (blk_new w _) _) hb)
  clear hb hB0 ho0 vOK
  cases hg : prB P with
  | false =>
    have hv : Hid (prnT P = []) := by unfold Hid prnT; rw [hg]; rfl
    go_wp2
    go_ret
    exact ⟨_, rfl, by rw [hv.out]; exact HO.out, HB.out⟩
  | true =>
    have hv : Hid (prnT P = progT P P.n) := by unfold Hid prnT; rw [hg]; rfl
    have hg' := hg
    simp only [prB, Bool.and_eq_true, decide_eq_true_eq] at hg'
    obtain ⟨g1, g2, g3⟩ := hg'
    have hI : Hid (∀ k, k < P.n → itB (P.I k) = true ∧ (P.I k).nE ≤ 2000 ∧ (P.I k).nF ≤ 2000) := fun k hk => ⟨allB_at g3 hk, by have := cnt_at P hk; omega, by have := cnt_at P hk; omega⟩
    have A1' : Hid (w1.heap[w.heap.size]? = some (.cells #[.slice a P.n c] 30)) := A1
    obtain ⟨N, hN⟩ : ∃ N, N = P.n := ⟨_, rfl⟩
    rw [← hN] at A1' g1
    have HN := Hid.mk hN
    clear hN g2 g3 hn hc A1
    go_wp2
    go_loopw [3, 4] (fun b i wr => ∃ k : Nat, k ≤ N ∧ i = .int .i64 (k : Int) ∧ Hid (Own w.heap.size wr b (progT P k)) ∧ Hid (Below w.heap.size w wr) ∧ Hid (wr.heap[w.heap.size]? = some (.cells #[.slice a N c] 30))) (fun _ i _ => N - (intOf i).toNat)
    case atStart => exact ⟨0, Nat.zero_le _, rfl, HO, HB, A1'⟩
    case round =>
      obtain ⟨k, hk, rfl, ho, hb, hbx⟩ := hrel
      clear HO HB A1'
      have y0 := blk_cell hbx.out 0
      simp only [List.getElem?_toArray, List.getElem?_cons_zero] at y0
      by_cases hlt : k < N
      · have hkP : k < P.n := by rw [← HN.out]; exact hlt
        have hpl := prog_len (P := P) (k := k) fun j hj => (itemAllI (P.I j) (L j) (hI.out j (by omega)).1 (hI.out j (by omega)).2.1 (hI.out j (by omega)).2.2).1
        have hil := (itemAllI (P.I k) (L k) (hI.out k hkP).1 (hI.out k hkP).2.1 (hI.out k hkP).2.2).1
        have hA := Hid.mk (itemAllS HX.out (P.I k) (L k) (hI.out k hkP).1 (hI.out k hkP).2.1 (hI.out k hkP).2.2 wr ((H.out.e k hkP).below hb.out) ((H.out.f k hkP).below hb.out))
        have hst : Hid (progT P (k + 1) = progT P k ++ itT (P.I k) ++ [59, 10]) := rfl
        rcases H.out.s with h0 | ⟨b, off, rfl, h0⟩
        · omega
        obtain ⟨e0, e1, e2, e3, e4, e5, e6⟩ := It.at (rangeAt_below (h0 k hkP) hb.out)
        clear h0
        have k0 : (0 : Int) ≤ (k : Int) := by omega
        have k1 : (k : Int) < (N : Int) := by omega
        obtain ⟨PT, hPT⟩ : ∃ PT, PT = progT P k := ⟨_, rfl⟩
        rw [← hPT] at hpl ho hst
        generalize P.I k = it at e0 e1 e2 e3 e4 e5 e6 hA hst hil
        generalize L k = lo at e2 e3 hA
        clear hPT
        go_wp2_with fail
        clear e0 e1 e2 e3 e4 e5 e6 y0
        refine hA.out.mono ?_
        rintro e w2 ⟨v2, rfl, ho2, hb2⟩
        obtain ⟨IT, hIT⟩ : ∃ IT, IT = itT it ++ [59, 10] := ⟨_, rfl⟩
        rw [← hIT] at ho2
        have hil2 : IT.length ≤ 200002 := by rw [hIT]; simp only [List.length_append, List.length_cons, List.length_nil]; omega
        have hst2 : Hid (progT P (k + 1) = PT ++ IT) := by unfold Hid; rw [hst.out, hIT, List.append_assoc]
        obtain ⟨g', off', c', rfl, hg', hcs⟩ := own_rt ho2 (by rw [hIT]; simp)
        have HCS : Hid (∀ j u, (Lib.byteCells IT)[j]? = some u → w2.cell? ((⟨g', off', none⟩ : Addr).add j) = some u) := fun j u hu => by rw [Addr.add_mid]; exact hcs j u hu
        have HO2 := Hid.mk (own_bel' ho.out hb2)
        have HB2 := Hid.mk (below_then hb.out hb2)
        have BX2 := Hid.mk (blk_below hbx.out hb2)
        have hB2 := HB2.out.size
        clear ho2 hb2 hcs hg' ho hb hbx hst hIT hA
        go_wp2_with (at_builtin; refine wpList_bytes rfl _ _ rfl w.heap.size _ _ rfl HO2.out ⟨g', off', none⟩ _ _ rfl IT rfl HCS.out hB2 (by omega) ?_)
        intro v3 w3 ho3 hk3
        have HO3 : Hid (Own w.heap.size w3 v3 (progT P (k + 1))) := by unfold Hid; rw [hst2.out]; exact ho3
        have HB3 := Hid.mk (HB2.out.trans hk3.1)
        have BX3 := Hid.mk (hk3.blk BX2.out (by decide))
        clear ho3 hk3 hst2
        refine Hid.out ?_
        refine Lib.hid ?_
        go_wp2
        exact ⟨⟨k + 1, by omega, by go_num, HO3, HB3, BX3⟩, by simp [intOf]; omega⟩
      · obtain rfl : k = N := by omega
        have k1 : decide ((k : Int) < (k : Int)) = false := by simp
        go_wp2
        go_ret
        exact ⟨_, rfl, by rw [hv.out, ← HN.out]; exact ho.out, hb.out⟩
end Go.Proofs.YthobdaeglhdhnaaGreatDoor.Syn
