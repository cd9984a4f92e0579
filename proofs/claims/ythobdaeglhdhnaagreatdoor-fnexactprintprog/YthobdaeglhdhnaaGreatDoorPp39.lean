import Derived.Test.YthobdaeglhdhnaaGreatDoorPp37
import Derived.Test.YthobdaeglhdhnaaGreatDoorPp38
import Derived.Test.YthobdaeglhdhnaaGreatDoorPp28
namespace Go.Proofs.YthobdaeglhdhnaaGreatDoor.Syn
open Go Go.RowKit Go.Proofs.YthobdaeglhdhnaaGreatDoor Go.Proofs.YthobdaeglhdhnaaGreatDoor.Mem
open Go.Proofs.YthobdaeglhdhnaaGreatDoor.Print (Own infoB byteCells_one)
set_option linter.unusedVariables false
set_option linter.unusedSimpArgs false
attribute [local go_sem ↓] Go.wp_at_zero Go.wp_at_succ

theorem wrp_bin (s b : Int) : (decide (s < b) || (s == 3 && b == 3)) = decide (s < lL b) := by
  unfold lL
  rw [Bool.eq_iff_iff]
  simp only [Bool.or_eq_true, Bool.and_eq_true, decide_eq_true_eq, beq_iff_eq]
  split <;> omega
theorem apT_mk {o : Po} {l : List Tr} (h : opB o = true) (hl : l.length = ar o) (hp : 0 < l.length) : apT o (fun i => l.getD i default) = (mk o l).txt := by
  obtain ⟨k0, k1, v0, v1⟩ := opB_ar h
  clear h
  unfold ar at hl
  by_cases hk : o.k = 7 ∨ o.k = 8
  · rw [if_pos hk] at hl
    match l, hl with
    | [a], _ =>
      show _ = preT o ++ par (decide (a.str < 6)) a.txt
      unfold apT pt wrp
      rw [if_pos hk, if_pos hk]
      simp only [List.getD_cons_zero]
      rw [show decide (a.str ≤ 5) = decide (a.str < 6) by rw [decide_eq_decide]; omega]
  · rw [if_neg hk] at hl
    by_cases h9 : o.k = 9
    · rw [if_pos h9] at hl
      match l, hl with
      | [a, b], _ =>
        show _ = (if o.k = 9 then Tr.bin o a b else Tr.two o a b).txt
        rw [if_pos h9]
        show _ = par (decide (a.str < lL (bstr o.v))) a.txt ++ [32] ++ twAt (8 + o.v.toNat) ++ [32] ++ par (decide (b.str < bstr o.v + 1)) b.txt
        unfold apT pt wrp
        rw [if_neg hk, if_pos h9, if_neg hk, if_pos h9, if_neg hk, if_pos h9, if_pos rfl, if_neg (by decide)]
        simp only [List.getD_cons_zero, List.getD_cons_succ]
        rw [wrp_bin, show decide (b.str ≤ bstr o.v) = decide (b.str < bstr o.v + 1) by rw [decide_eq_decide]; omega]
    · rw [if_neg h9] at hl
      by_cases h10 : o.k = 10
      · rw [if_pos h10] at hl
        have hw : ∀ i s, wrp o i s = false := fun i s => by unfold wrp; rw [if_neg hk, if_neg h9]
        by_cases h2 : o.v = 2
        · rw [if_pos h2] at hl
          match l, hl with
          | [a, b, c], _ =>
            show _ = twAt (25 + o.v.toNat) ++ [40] ++ a.txt ++ [44, 32] ++ b.txt ++ [44, 32] ++ c.txt ++ [41]
            unfold apT pt
            rw [if_neg hk, if_neg h9, if_pos h2, hw, hw, hw, h2]
            rfl
        · rw [if_neg h2] at hl
          match l, hl with
          | [a, b], _ =>
            show _ = (if o.k = 9 then Tr.bin o a b else Tr.two o a b).txt
            rw [if_neg h9]
            show _ = twAt (25 + o.v.toNat) ++ [40] ++ a.txt ++ [44, 32] ++ b.txt ++ [41]
            unfold apT pt
            rw [if_neg hk, if_neg h9, if_neg h2, hw, hw]
            rfl
      · rw [if_neg h10] at hl
        omega
/-- l2Apply of an Op and its operands, with texts. -/
theorem applyA (o : Po) (s : List Tv) (A : Nat) (a : Option Addr) (c : Nat) (w : World) (hs : SliceAt w a A 3 (fun i => pcells (s.getD i default))) (hx : Txs w s) (hl : A = s.length) (hA : A = ar o) (hop : opB o = true) (hsz : szs (s.map Prod.fst) ≤ 1000000) (hwf : ∀ t ∈ s.map Prod.fst, t.wf ∧ t.ops) :
    Calls Tryz.prog 58 #[.agg #[.int .i64 o.k, .int .i64 o.v, .string ⟨o.n.toArray⟩], .slice a A c, .bool true] w fun e w' => ∃ v, e = .returned (.agg #[.int .i64 (pstr o), .int .i64 (apN o (fun i => (s.map Prod.fst).getD i default) A), v]) ∧ Rt w' v (mk o (s.map Prod.fst)).txt ∧ Below w.heap.size w w' := by
  obtain ⟨k0, k1, v0, v1⟩ := opB_ar hop
  by_cases h0 : A = 0
  · have hk6 : o.k ≤ 6 := by
      rw [hA] at h0
      unfold ar at h0
      split at h0
      · omega
      · split at h0
        · omega
        · split at h0
          · split at h0 <;> omega
          · omega
    have hs0 : s = [] := List.eq_nil_of_length_eq_zero (by omega)
    refine (applyT0 o a c A w h0 hop hk6).mono ?_
    rintro e w' ⟨v, rfl, h1, h2⟩
    refine ⟨v, ?_, ?_, h2⟩
    · unfold apN; rw [if_pos h0]
    · rw [hs0]; exact h1
  · have hgd : ∀ i, i < A → (s.map Prod.fst).getD i default = (s.getD i default).1 := fun i hi => by
      rw [List.getD_eq_getElem?_getD, List.getD_eq_getElem?_getD, List.getElem?_map, List.getElem?_eq_getElem (by omega)]
      rfl
    have hmem : ∀ i, i < A → s.getD i default ∈ s := fun i hi => by
      rw [List.getD_eq_getElem?_getD, List.getElem?_eq_getElem (by omega)]
      exact List.getElem_mem _
    have hsz' : ∀ i, i < A → ((s.map Prod.fst).getD i default).sz ≤ 1000000 := fun i hi => Nat.le_trans (sz_le (by rw [List.length_map]; omega)) hsz
    refine (applyT o (fun i => (s.map Prod.fst).getD i default) (fun i => (s.getD i default).2) A a c w ?_ ?_ ?_ (by omega) hsz' ?_ ?_).mono ?_
    · rcases hs with h | ⟨b, off, hb, h⟩
      · exact Or.inl h
      · refine Or.inr ⟨b, off, hb, fun i hi => ?_⟩
        simp only [hgd i hi]
        exact h i hi
    · intro i hi
      simp only [hgd i hi]
      exact hx _ (hmem i hi)
    · rw [hA]; exact ar_le o
    · intro i hi
      have hm : (s.map Prod.fst).getD i default ∈ s.map Prod.fst := by
        rw [hgd i hi]; exact List.mem_map.2 ⟨_, hmem i hi, rfl⟩
      have := txt_len (hwf _ hm).1 (hwf _ hm).2
      have := hsz' i hi
      omega
    · rw [hA]
      unfold ar
      unfold opMax at v1
      by_cases h78 : o.k = 7 ∨ o.k = 8
      · rw [if_pos h78]; exact Or.inl ⟨h78, rfl⟩
      · rw [if_neg h78]
        by_cases h9 : o.k = 9
        · rw [if_pos h9]
          refine Or.inr (Or.inl ⟨h9, rfl, v0, ?_⟩)
          rw [h9] at v1
          simpa using v1
        · rw [if_neg h9]
          by_cases h10 : o.k = 10
          · rw [if_pos h10]
            refine Or.inr (Or.inr ⟨h10, ?_⟩)
            rw [h10] at v1
            have v1' : o.v ≤ 2 := by simpa using v1
            by_cases h2 : o.v = 2
            · rw [if_pos h2]; exact Or.inl ⟨h2, rfl⟩
            · rw [if_neg h2]; exact Or.inr ⟨by omega, rfl⟩
          · exfalso
            apply h0
            rw [hA]; unfold ar
            rw [if_neg h78, if_neg h9, if_neg h10]
    · rintro e w' ⟨v, rfl, h1, h2⟩
      exact ⟨v, rfl, by rw [apT_mk hop (by rw [List.length_map, ← hl, hA]) (by rw [List.length_map]; omega)] at h1; exact h1, h2⟩
/-- What folding a postfix list leaves, with texts. -/
inductive FoldT (w w' : World) (E : Nat → Po) (n : Nat) (e : Ending) : Prop
  | ok (t : Tr) (v : Value) (he : e = .returned (.tuple #[.bool true, .agg #[.int .i64 t.str, .int .i64 t.nst, v]])) (hs : stk E n = some [t]) (hR : Rt w' v t.txt) (hb : Below w.heap.size w w') : FoldT w w' E n e
  | no (he : e = .returned (.tuple #[.bool false, .agg #[.int .i64 0, .int .i64 0, .slice none 0 0]])) (hs : ∀ t, stk E n ≠ some [t]) (hb : Below w.heap.size w w') : FoldT w w' E n e
set_option maxHeartbeats 6400000 in
set_option maxRecDepth 100000 in
theorem foldT (E : Nat → Po) (a : Option Addr) (n cap : Nat) (w : World) (hs : SliceAt w a n 3 (fun i => (E i).cells)) (hn : n ≤ 1000000) :
    Calls Tryz.prog 42 #[.slice a n cap, .bool true] w fun e w' => FoldT w w' E n e := by
  obtain ⟨i0, hi, hz0, hz1, hz2⟩ := info_parts infoVl
  have H := Hid.mk hs
  clear hs
  go_enter Tryz.func42, Tryz.ntmps42
  go_wp2
  go_loopw [6, 7] (fun v i wr => ∃ (j : Nat) (s : List Tv), j ≤ n ∧ i = .int .i64 (j : Int) ∧ Hid (stk E j = some (s.map Prod.fst)) ∧ Hid (Txs wr s) ∧ Hid (wr.ownsRow (w.heap.size + 1) 73 3 v s.length (prow s)) ∧ Hid (∃ g, v.ownBlock = some g) ∧ Hid (wr.heap[w.heap.size]? = some (.cells #[.int .i64 0, .int .i64 0, .slice none 0 0] 73)) ∧ Hid (Below w.heap.size w wr)) (fun _ i _ => n - (intOf i).toNat)
  case atStart =>
    refine ⟨0, [], Nat.zero_le _, rfl, rfl, ?_, ?_, ⟨_, rfl⟩, ?_, ?_⟩
    · exact (show Txs _ [] from fun p hp => by cases hp)
    · have := World.ownsRow_made (w.alloc (.cells #[.int .i64 0, .int .i64 0, .slice none 0 0] 73)) (base := w.heap.size + 1) (e := 73) (size := 3) #[] 0 (by simp) (by unfold maxLen; omega) (by simp)
      simp only [World.size_alloc] at this; exact this
    · exact blk_alloc (blk_new w _) _
    · unfold Hid; go_grown
  case round =>
    obtain ⟨j, s, hj, rfl, hst, htx, hrow, hsome, hres, hb⟩ := hrel
    obtain ⟨sa, sc, hv, hsc⟩ := own_shape hrow.out
    rw [hv] at hrow hsome ⊢
    clear hv
    have hlen := stk_len hst.out
    rw [List.length_map] at hlen
    obtain ⟨L, hL⟩ : ∃ L, L = s.length := ⟨_, rfl⟩
    rw [← hL] at hrow hsc hlen hsome
    rw [← hL]
    have HL := Hid.mk hL
    clear hL
    by_cases hlt : j < n
    · rcases H.out with h0 | ⟨b, off, rfl, h0⟩
      · omega
      have HE : Hid (∀ W, Below w.heap.size w W → W.cell? ⟨b, off + j * 3, none⟩ = some (.int .i64 (E j).k) ∧ W.cell? ⟨b, off + j * 3 + 1, none⟩ = some (.int .i64 (E j).v) ∧ W.cell? ⟨b, off + j * 3 + 2, none⟩ = some (.string ⟨(E j).n.toArray⟩)) := fun W hW => Po.at (rangeAt_below (h0 j hlt) hW)
      clear h0
      have k0 : (0 : Int) ≤ (j : Int) := by omega
      have k1 : (j : Int) < (n : Int) := by omega
      obtain ⟨o, ho⟩ : ∃ o, o = E j := ⟨_, rfl⟩
      rw [← ho] at HE
      have HO := Hid.mk ho
      clear ho
      obtain ⟨e0, e1, e2⟩ := HE.out _ hb.out
      go_wp2_with fail
      clear e0 e1 e2
      refine (goodOpS o _).mono ?_
      rintro e w1 ⟨rfl, hb1⟩
      have B1 := Hid.mk (below_then hb.out hb1)
      have R1 := Hid.mk (row_kept hrow.out hb1)
      have S1 := Hid.mk (blk_below hres.out hb1)
      have X1 := Hid.mk (htx.out.below hb1)
      clear hb1 hb hrow hres htx
      cases hop : opB o with
      | false =>
        have hbad : Hid (∀ t, stk E n ≠ some [t]) := stk_bad hst.out hlt (Or.inl (by rw [← HO.out]; exact hop))
        have r0 := blk_cell S1.out 0
        have r1 := blk_cell S1.out 1
        have r2 := blk_cell S1.out 2
        have g0 := blk_unfrozen S1.out 0
        have g1 := blk_unfrozen S1.out 1
        have g2 := blk_unfrozen S1.out 2
        simp only [List.getElem?_toArray, List.getElem?_cons_zero, List.getElem?_cons_succ] at r0 r1 r2
        go_wp2
        obtain ⟨Z, hZ⟩ : ∃ Z : World, Z = ((w1.setCell ⟨w.heap.size, 0, none⟩ (.int .i64 0)).setCell ⟨w.heap.size, 1, none⟩ (.int .i64 0)).setCell ⟨w.heap.size, 2, none⟩ (.slice none 0 0) := ⟨_, rfl⟩
        rw [← hZ]
        obtain ⟨s0, s1, s2⟩ := ret_rec3 (show Z.heap[w.heap.size]? = some (.cells #[.int .i64 0, .int .i64 0, .slice none 0 0] 73) by rw [hZ]; exact blk_store3 S1.out)
        have HZB : Below w.heap.size w Z := by rw [hZ]; exact below_set (below_set (below_set B1.out _ (by simp) _) _ (by simp) _) _ (by simp) _
        clear hZ
        refine bodyPost_ret (v := .tuple #[.bool false, .agg #[.int .i64 0, .int .i64 0, .slice none 0 0]]) (by simp [results, Tryz.results42, go_sem, s0, s1, s2]; try rfl) rfl ?_
        exact .no rfl hbad.out HZB
      | true =>
        obtain ⟨e0, e1, e2⟩ := HE.out _ B1.out
        go_wp2_with fail
        clear e0 e1 e2
        refine (arityS o _ hop).mono ?_
        rintro e w2 ⟨rfl, hb2⟩
        have B2 := Hid.mk (below_then B1.out hb2)
        have R2 := Hid.mk (row_kept R1.out hb2)
        have S2 := Hid.mk (blk_below S1.out hb2)
        have X2 := Hid.mk (X1.out.below hb2)
        clear hb2 B1 R1 S1 X1
        obtain ⟨A, hA⟩ : ∃ A, A = ar o := ⟨_, rfl⟩
        rw [← hA]
        have hA3 : A ≤ 3 := by rw [hA]; exact ar_le o
        have HA := Hid.mk hA
        clear hA
        by_cases hAL : (L : Int) < (A : Int)
        · have hbad : Hid (∀ t, stk E n ≠ some [t]) := stk_bad hst.out hlt (Or.inr (by rw [List.length_map, ← HO.out, ← HL.out, ← HA.out]; omega))
          have r0 := blk_cell S2.out 0
          have r1 := blk_cell S2.out 1
          have r2 := blk_cell S2.out 2
          have g0 := blk_unfrozen S2.out 0
          have g1 := blk_unfrozen S2.out 1
          have g2 := blk_unfrozen S2.out 2
          simp only [List.getElem?_toArray, List.getElem?_cons_zero, List.getElem?_cons_succ] at r0 r1 r2
          go_wp2
          obtain ⟨Z, hZ⟩ : ∃ Z : World, Z = ((w2.setCell ⟨w.heap.size, 0, none⟩ (.int .i64 0)).setCell ⟨w.heap.size, 1, none⟩ (.int .i64 0)).setCell ⟨w.heap.size, 2, none⟩ (.slice none 0 0) := ⟨_, rfl⟩
          rw [← hZ]
          obtain ⟨s0, s1, s2⟩ := ret_rec3 (show Z.heap[w.heap.size]? = some (.cells #[.int .i64 0, .int .i64 0, .slice none 0 0] 73) by rw [hZ]; exact blk_store3 S2.out)
          have HZB : Below w.heap.size w Z := by rw [hZ]; exact below_set (below_set (below_set B2.out _ (by simp) _) _ (by simp) _) _ (by simp) _
          clear hZ
          refine bodyPost_ret (v := .tuple #[.bool false, .agg #[.int .i64 0, .int .i64 0, .slice none 0 0]]) (by simp [results, Tryz.results42, go_sem, s0, s1, s2]; try rfl) rfl ?_
          exact .no rfl hbad.out HZB
        · have hALd : decide ((L : Int) < (A : Int)) = false := by simpa using hAL
          obtain ⟨m, hm⟩ : ∃ m, L = m + A := ⟨L - A, by omega⟩
          subst hm
          clear hAL
          obtain ⟨D, hD⟩ : ∃ D, D = (s.drop m).map Prod.fst := ⟨_, rfl⟩
          have hnext : Hid (stk E (j + 1) = some ((s.take m).map Prod.fst ++ [mk o D])) := by
            have := stk_next hst.out (by rw [← HO.out]; exact hop) (by rw [List.length_map, ← HO.out, ← HL.out, ← HA.out]; omega)
            rw [List.length_map, ← HO.out, ← HL.out, ← HA.out, Nat.add_sub_cancel, ← List.map_take, ← List.map_drop, ← hD] at this
            exact this
          have hdl : Hid ((s.drop m).length = A) := by unfold Hid; rw [List.length_drop, ← HL.out]; omega
          have hDl : D.length = A := by rw [hD, List.length_map, hdl.out]
          obtain ⟨q, hq⟩ : ∃ q, q = apN o (fun i => D.getD i default) A := ⟨_, rfl⟩
          have hmc : Hid (pcells (mk o D, .nilIface) = [.int .i64 (pstr o), .int .i64 q, .nilIface]) := by
            unfold Hid pcells
            rw [mk_nst hop (by rw [hDl]; exact HA.out), hDl, ← hq, Tr.str, mk_op]
          have hszs : szs D ≤ 1000000 := by
            have h1 := (stk_inv hst.out).2
            have h2 : szs ((s.take m).map Prod.fst) + szs D = szs (s.map Prod.fst) := by rw [hD, ← szs_app, ← List.map_append, List.take_append_drop]
            omega
          have hwf : ∀ t ∈ D, t.wf ∧ t.ops := fun t ht => by
            have ht' : t ∈ s.map Prod.fst := by
              rw [hD] at ht
              obtain ⟨p, hp, e⟩ := List.mem_map.1 ht
              exact List.mem_map.2 ⟨p, List.mem_of_mem_drop hp, e⟩
            exact ⟨(stk_inv hst.out).1 t ht', stk_ops hst.out t ht'⟩
          have AS : Hid (∀ (a3 : Option Addr) (c3 : Nat) (W : World), SliceAt W a3 A 3 (fun i => pcells ((s.drop m).getD i default)) → Txs W (s.drop m) → Calls Tryz.prog 58 #[.agg #[.int .i64 o.k, .int .i64 o.v, .string ⟨o.n.toArray⟩], .slice a3 A c3, .bool true] W fun e w' => ∃ v, e = .returned (.agg #[.int .i64 (pstr o), .int .i64 q, v]) ∧ Rt w' v (mk o D).txt ∧ Below W.heap.size W w') := fun a3 c3 W h hx => by rw [hq, hD]; exact applyA o (s.drop m) A a3 c3 W h hx hdl.out.symm HA.out hop (by rw [← hD]; exact hszs) (by rw [← hD]; exact hwf)
          clear hq hszs hwf hDl
          have HD := Hid.mk hD
          clear hD
          obtain ⟨g, rfl⟩ : ∃ g, sa = some ⟨g, 0, none⟩ := by
            rcases R2.out.2 with ⟨h1, h2⟩ | ⟨g, cc, cur, h1, -⟩
            · obtain ⟨g', hg'⟩ := hsome.out; rw [h1] at hg'; cases hg'
            · injection h1 with h1; exact ⟨g, h1⟩
          have hTk := Hid.mk (own_takeP R2.out (show m ≤ m + A by omega) HL.out)
          have hcl : Hid (∀ p u, (prow (s.drop m))[p]? = some u → w2.cell? ⟨g, m * 3 + p, none⟩ = some u) := fun q u hu => by
            refine own_cells3 R2.out (m * 3 + q) u ?_
            rw [← prow_drop, List.getElem?_drop] at hu
            exact hu
          have hsub : ((m + A : Nat) : Int) - (A : Int) = (m : Int) := by omega
          have hw1 : IntKind.i64.wrap (((m + A : Nat) : Int) - (A : Int)) = (m : Int) := by rw [hsub]; exact wrap_small _ (by omega) (by omega)
          have hw2 : IntKind.i64.wrap ((m : Int) + (A : Int) - (A : Int)) = (m : Int) := by rw [show (m : Int) + (A : Int) - (A : Int) = (m : Int) by omega]; exact wrap_small _ (by omega) (by omega)
          have hw3 : IntKind.i64.wrap (m : Int) = (m : Int) := wrap_small _ (by omega) (by omega)
          have q0 : (0 : Int) ≤ (m : Int) := by omega
          have q1 : (m : Int) ≤ (sc : Int) := by omega
          have q2 : (m : Int) ≤ (m : Int) + (A : Int) := by omega
          have q3 : (m : Int) + (A : Int) ≤ (sc : Int) := by omega
          have hempty : Hid ((w2.alloc (.cells #[] 73)).ownsRow w2.heap.size 73 3 (.slice (some ⟨w2.heap.size, 0, none⟩) 0 0) 0 []) := World.ownsRow_made w2 #[] 0 (Nat.le_refl _) (by unfold maxLen; omega) (by simp)
          have hvl : Hid ((prow (s.drop m)).length = A * 3) := by unfold Hid; rw [prow_len, hdl.out]
          have hcl2 : Hid (∀ p u, (prow (s.drop m))[p]? = some u → w2.cell? ⟨g, m * 3 + p, none⟩ = some u) := hcl
          by_cases hcm : sc = m
          · obtain rfl : A = 0 := by omega
            subst hcm
            have hcl2 : Hid (∀ p u, (prow (s.drop sc))[p]? = some u → w2.cell? ⟨g, 0 + p, none⟩ = some u) := fun q u hu => by
              have := (List.getElem?_eq_some_iff.1 hu).1
              rw [hvl.out] at this
              omega
            go_wp2_with (at_builtin; refine wpList_append_own _ rfl _ _ 95 rfl w2.heap.size 73 i0 (.agg #[.int .i64 0, .int .i64 0, .slice none 0 0]) 3 40 Tryz.underlying95 hi hz0 hz1 hz2 rfl (by decide) _ _ _ rfl hempty.out ⟨g, 0, none⟩ 0 0 (prow (s.drop sc)) rfl hvl.out (fun q u hu => by rw [Addr.add_mid]; exact cell_keep (by go_grown) (hcl2.out q u hu)) (prow_one _ (X2.out.drop _).one) (by unfold maxLen; omega) (by omega) (by simp) ?_)
            intro v3 w3 hown3 hgrow3 _
            obtain ⟨a3, c3, rfl, -⟩ := own_shape hown3
            have hbX : Hid (Below w2.heap.size w2 w3) := ((Below.refl _ _).alloc (Nat.le_refl _) _).grown hgrow3 (by simp) (fun k hk => (hempty.out.lt k hk).1)
            have B3 := Hid.mk (below_then B2.out hbX.out)
            have T3 := Hid.mk (row_kept hTk.out hbX.out)
            have S3 := Hid.mk (blk_below S2.out hbX.out)
            have X3 := Hid.mk (X2.out.below hbX.out)
            have hsl := Hid.mk (own_sliceP (l := s.drop sc) (by simpa using hown3) hdl.out.symm)
            clear hown3 hgrow3 hempty hbX B2 R2 S2 hTk hcl hcl2 X2
            refine Hid.out ?_
            refine Lib.hid ?_
            obtain ⟨e0, e1, e2⟩ := HE.out _ B3.out
            go_wp2_with fail
            have hz3 := B3.out.size
            have hneB : some b ≠ (Value.slice (some ⟨g, 0, none⟩) sc sc).ownBlock := fun e => by
              injection e with e
              have h1 := lt_of_cell ((HE.out _ (Below.refl _ _)).1)
              have h2 := (T3.out.lt g rfl).1
              have h3 : b = g := e
              omega
            go_region_held3 (fun w' => w'.cell? ⟨b, off + j * 3, none⟩ = some (.int .i64 o.k) ∧ w'.cell? ⟨b, off + j * 3 + 1, none⟩ = some (.int .i64 o.v) ∧ w'.cell? ⟨b, off + j * 3 + 2, none⟩ = some (.string ⟨o.n.toArray⟩))
              (first | (have _ := hgrow; (repeat' constructor) <;> exact hgrow.cell (by first | assumption | (simp [*]; done)) hneB) | go_keep | ((repeat' constructor) <;> exact cell_keep hb4 (by first | assumption | (simp [*]; done))))
              ((first | (go_at_call 58; refine (AS.out a3 c3 w3.drew hsl.out ((X3.out.drop _).below (Below.refl _ _).drew)).mono ?_; rintro e w4 ⟨v4, rfl, hR4, hb4⟩; have HR4 := Hid.mk hR4; obtain ⟨xg, xo, xc, hv4, -, -⟩ := hR4; obtain ⟨xn, hxn⟩ : ∃ xn, xn = (mk o D).txt.length := ⟨_, rfl⟩; rw [← hxn] at hv4; subst hv4; clear hxn) | (refine step_append_own rfl (.tmp 47) (.tmp 55) 95 rfl (w.heap.size + 1) 73 i0 (.agg #[.int .i64 0, .int .i64 0, .slice none 0 0]) 3 40 Tryz.underlying95 hi hz0 hz1 hz2 rfl (by decide) (.slice (some ⟨g, 0, none⟩) sc sc) sc (prow (s.take sc)) (by simp [Act.eval, Act.put]) ((row_kept (row_kept T3.out (Below.refl _ _).drew) hb4).alloc _) ⟨w4.heap.size, 0, none⟩ 1 1 [.int .i64 (pstr o), .int .i64 q, Value.slice (some ⟨xg, xo, none⟩) xn xc] (by simp [Act.eval, Act.put]) rfl (news_three w4 _ _ _ 73) (by intro u hu; simp only [List.mem_cons, List.not_mem_nil, or_false] at hu; rcases hu with rfl | rfl | rfl <;> rfl) (by unfold maxLen; omega) (by omega) (by have := hb4.size; simp at this; simp; omega) ?_; intro vn w7 hown hgrow hblk)))
            have hbZ := Hid.mk ((below_then B3.out.drew hb4).alloc (below_then B3.out.drew hb4).size (.cells #[.int .i64 (pstr o), .int .i64 q, Value.slice (some ⟨xg, xo, none⟩) xn xc] 73))
            have hb7 : Hid (Below w.heap.size w w7) := hbZ.out.grown hgrow hbZ.out.size (fun k hk => by have := (T3.out.lt k hk).1; omega)
            have S7 : Hid (w7.heap[w.heap.size]? = some (.cells #[.int .i64 0, .int .i64 0, .slice none 0 0] 73)) := by
              have h1 := blk_alloc (blk_below (blk_below S3.out (Below.refl _ _).drew) hb4) (.cells #[.int .i64 (pstr o), .int .i64 q, Value.slice (some ⟨xg, xo, none⟩) xn xc] 73)
              unfold Hid
              rw [hgrow.block _ (blk_lt h1) (fun e => by have := (T3.out.lt w.heap.size e.symm).1; omega)]
              exact h1
            have X7 : Hid (Txs w7 (s.take sc ++ [(mk o D, Value.slice (some ⟨xg, xo, none⟩) xn xc)])) :=
              Txs.snoc ((((X3.out.take sc).below (Below.refl _ _).drew).below hb4).below (below_alloc' (Below.refl _ _) _) |>.grw ((row_kept (row_kept T3.out (Below.refl _ _).drew) hb4).alloc _) (by decide) hgrow) ((HR4.out.below (below_alloc' (Below.refl _ _) _)).grw ((row_kept (row_kept T3.out (Below.refl _ _).drew) hb4).alloc _) (by decide) hgrow)
            have hO7 : Hid (w7.ownsRow (w.heap.size + 1) 73 3 vn (s.take sc ++ [(mk o D, Value.slice (some ⟨xg, xo, none⟩) xn xc)]).length (prow (s.take sc ++ [(mk o D, Value.slice (some ⟨xg, xo, none⟩) xn xc)]))) := by
              have e2 : pcells (mk o D, Value.slice (some ⟨xg, xo, none⟩) xn xc) = [.int .i64 (pstr o), .int .i64 q, Value.slice (some ⟨xg, xo, none⟩) xn xc] := by
                have := hmc.out
                unfold pcells at this ⊢
                injection this with a1 a2
                injection a2 with a2 a3
                simp only [a1, a2]
              unfold Hid
              rw [List.length_append, List.length_singleton, List.length_take, ← HL.out, Nat.min_eq_left (by omega), prow_app, show prow [(mk o D, Value.slice (some ⟨xg, xo, none⟩) xn xc)] = pcells (mk o D, Value.slice (some ⟨xg, xo, none⟩) xn xc) by simp [prow], e2]
              exact hown
            have hs7 : Hid (∃ g, vn.ownBlock = some g) := by
              rcases hblk with h | h
              · exact ⟨g, h⟩
              · exact ⟨_, h⟩
            clear hb4 hown hgrow hblk hbZ T3 S3 B3 e0 e1 e2 X3 HR4
            go_wp2
            exact ⟨⟨j + 1, _, by omega, by go_num, by unfold Hid; rw [List.map_append]; exact hnext.out, X7, hO7, hs7, S7, hb7⟩, by simp [intOf]; omega⟩
          · go_wp2_with (at_builtin; refine wpList_append_own _ rfl _ _ 95 rfl w2.heap.size 73 i0 (.agg #[.int .i64 0, .int .i64 0, .slice none 0 0]) 3 40 Tryz.underlying95 hi hz0 hz1 hz2 rfl (by decide) _ _ _ rfl hempty.out ⟨g, m * 3, none⟩ A (sc - m) (prow (s.drop m)) rfl hvl.out (fun q u hu => by rw [Addr.add_mid]; exact cell_keep (by go_grown) (hcl2.out q u hu)) (prow_one _ (X2.out.drop _).one) (by unfold maxLen; omega) (by omega) (by simp) ?_)
            intro v3 w3 hown3 hgrow3 _
            obtain ⟨a3, c3, rfl, -⟩ := own_shape hown3
            have hbX : Hid (Below w2.heap.size w2 w3) := ((Below.refl _ _).alloc (Nat.le_refl _) _).grown hgrow3 (by simp) (fun k hk => (hempty.out.lt k hk).1)
            have B3 := Hid.mk (below_then B2.out hbX.out)
            have T3 := Hid.mk (row_kept hTk.out hbX.out)
            have S3 := Hid.mk (blk_below S2.out hbX.out)
            have X3 := Hid.mk (X2.out.below hbX.out)
            have hsl := Hid.mk (own_sliceP (l := s.drop m) (by simpa using hown3) hdl.out.symm)
            clear hown3 hgrow3 hempty hbX B2 R2 S2 hTk hcl hcl2 X2
            refine Hid.out ?_
            refine Lib.hid ?_
            obtain ⟨e0, e1, e2⟩ := HE.out _ B3.out
            go_wp2_with fail
            have hz3 := B3.out.size
            have hneB : some b ≠ (Value.slice (some ⟨g, 0, none⟩) m sc).ownBlock := fun e => by
              injection e with e
              have h1 := lt_of_cell ((HE.out _ (Below.refl _ _)).1)
              have h2 := (T3.out.lt g rfl).1
              have h3 : b = g := e
              omega
            go_region_held3 (fun w' => w'.cell? ⟨b, off + j * 3, none⟩ = some (.int .i64 o.k) ∧ w'.cell? ⟨b, off + j * 3 + 1, none⟩ = some (.int .i64 o.v) ∧ w'.cell? ⟨b, off + j * 3 + 2, none⟩ = some (.string ⟨o.n.toArray⟩))
              (first | (have _ := hgrow; (repeat' constructor) <;> exact hgrow.cell (by first | assumption | (simp [*]; done)) hneB) | go_keep | ((repeat' constructor) <;> exact cell_keep hb4 (by first | assumption | (simp [*]; done))))
              ((first | (go_at_call 58; refine (AS.out a3 c3 w3.drew hsl.out ((X3.out.drop _).below (Below.refl _ _).drew)).mono ?_; rintro e w4 ⟨v4, rfl, hR4, hb4⟩; have HR4 := Hid.mk hR4; obtain ⟨xg, xo, xc, hv4, -, -⟩ := hR4; obtain ⟨xn, hxn⟩ : ∃ xn, xn = (mk o D).txt.length := ⟨_, rfl⟩; rw [← hxn] at hv4; subst hv4; clear hxn) | (refine step_append_own rfl (.tmp 47) (.tmp 55) 95 rfl (w.heap.size + 1) 73 i0 (.agg #[.int .i64 0, .int .i64 0, .slice none 0 0]) 3 40 Tryz.underlying95 hi hz0 hz1 hz2 rfl (by decide) (.slice (some ⟨g, 0, none⟩) m sc) m (prow (s.take m)) (by simp [Act.eval, Act.put]) ((row_kept (row_kept T3.out (Below.refl _ _).drew) hb4).alloc _) ⟨w4.heap.size, 0, none⟩ 1 1 [.int .i64 (pstr o), .int .i64 q, Value.slice (some ⟨xg, xo, none⟩) xn xc] (by simp [Act.eval, Act.put]) rfl (news_three w4 _ _ _ 73) (by intro u hu; simp only [List.mem_cons, List.not_mem_nil, or_false] at hu; rcases hu with rfl | rfl | rfl <;> rfl) (by unfold maxLen; omega) (by omega) (by have := hb4.size; simp at this; simp; omega) ?_; intro vn w7 hown hgrow hblk)))
            have hbZ := Hid.mk ((below_then B3.out.drew hb4).alloc (below_then B3.out.drew hb4).size (.cells #[.int .i64 (pstr o), .int .i64 q, Value.slice (some ⟨xg, xo, none⟩) xn xc] 73))
            have hb7 : Hid (Below w.heap.size w w7) := hbZ.out.grown hgrow hbZ.out.size (fun k hk => by have := (T3.out.lt k hk).1; omega)
            have S7 : Hid (w7.heap[w.heap.size]? = some (.cells #[.int .i64 0, .int .i64 0, .slice none 0 0] 73)) := by
              have h1 := blk_alloc (blk_below (blk_below S3.out (Below.refl _ _).drew) hb4) (.cells #[.int .i64 (pstr o), .int .i64 q, Value.slice (some ⟨xg, xo, none⟩) xn xc] 73)
              unfold Hid
              rw [hgrow.block _ (blk_lt h1) (fun e => by have := (T3.out.lt w.heap.size e.symm).1; omega)]
              exact h1
            have X7 : Hid (Txs w7 (s.take m ++ [(mk o D, Value.slice (some ⟨xg, xo, none⟩) xn xc)])) :=
              Txs.snoc ((((X3.out.take m).below (Below.refl _ _).drew).below hb4).below (below_alloc' (Below.refl _ _) _) |>.grw ((row_kept (row_kept T3.out (Below.refl _ _).drew) hb4).alloc _) (by decide) hgrow) ((HR4.out.below (below_alloc' (Below.refl _ _) _)).grw ((row_kept (row_kept T3.out (Below.refl _ _).drew) hb4).alloc _) (by decide) hgrow)
            have hO7 : Hid (w7.ownsRow (w.heap.size + 1) 73 3 vn (s.take m ++ [(mk o D, Value.slice (some ⟨xg, xo, none⟩) xn xc)]).length (prow (s.take m ++ [(mk o D, Value.slice (some ⟨xg, xo, none⟩) xn xc)]))) := by
              have e2 : pcells (mk o D, Value.slice (some ⟨xg, xo, none⟩) xn xc) = [.int .i64 (pstr o), .int .i64 q, Value.slice (some ⟨xg, xo, none⟩) xn xc] := by
                have := hmc.out
                unfold pcells at this ⊢
                injection this with a1 a2
                injection a2 with a2 a3
                simp only [a1, a2]
              unfold Hid
              rw [List.length_append, List.length_singleton, List.length_take, ← HL.out, Nat.min_eq_left (by omega), prow_app, show prow [(mk o D, Value.slice (some ⟨xg, xo, none⟩) xn xc)] = pcells (mk o D, Value.slice (some ⟨xg, xo, none⟩) xn xc) by simp [prow], e2]
              exact hown
            have hs7 : Hid (∃ g, vn.ownBlock = some g) := by
              rcases hblk with h | h
              · exact ⟨g, h⟩
              · exact ⟨_, h⟩
            clear hb4 hown hgrow hblk hbZ T3 S3 B3 e0 e1 e2 X3 HR4
            go_wp2
            exact ⟨⟨j + 1, _, by omega, by go_num, by unfold Hid; rw [List.map_append]; exact hnext.out, X7, hO7, hs7, S7, hb7⟩, by simp [intOf]; omega⟩
    · obtain rfl : j = n := by omega
      have k1 : decide ((j : Int) < (j : Int)) = false := by simp
      by_cases h1 : L = 1
      · have hsl : s.length = 1 := by rw [← HL.out]; exact h1
        have q0 : (0 : Int) < (L : Int) := by omega
        have hq : ((L : Int) == 1) = true := by simp [h1]
        have hq2 : ((L : Int) != 1) = false := by simp [h1]
        obtain ⟨g, rfl⟩ : ∃ g, sa = some ⟨g, 0, none⟩ := by
          rcases hrow.out.2 with ⟨h1, h2⟩ | ⟨g, cc, cur, h1, -⟩
          · obtain ⟨g', hg'⟩ := hsome.out; rw [h1] at hg'; cases hg'
          · injection h1 with h1; exact ⟨g, h1⟩
        have hcc := own_cells3 hrow.out
        clear h1
        match s, hsl, hcc, hst, htx with
        | [(t, tv)], _, hcc, hst, htx =>
          have HR := Hid.mk (htx.out (t, tv) (by simp))
          obtain ⟨xg, xo, xc, hv4, -, -⟩ := HR.out
          obtain ⟨xn, hxn⟩ : ∃ xn, xn = t.txt.length := ⟨_, rfl⟩
          simp only at hv4
          rw [← hxn] at hv4
          subst hv4
          clear hxn htx
          have c0 : wr.cell? ⟨g, 0, none⟩ = some (.int .i64 t.str) := hcc 0 _ rfl
          have c1 : wr.cell? ⟨g, 1, none⟩ = some (.int .i64 t.nst) := hcc 1 _ rfl
          have c2 : wr.cell? ⟨g, 2, none⟩ = some (Value.slice (some ⟨xg, xo, none⟩) xn xc) := hcc 2 _ rfl
          clear hcc hsl hrow hsome
          have r0 := blk_cell hres.out 0
          have r1 := blk_cell hres.out 1
          have r2 := blk_cell hres.out 2
          have g0 := blk_unfrozen hres.out 0
          have g1 := blk_unfrozen hres.out 1
          have g2 := blk_unfrozen hres.out 2
          simp only [List.getElem?_toArray, List.getElem?_cons_zero, List.getElem?_cons_succ] at r0 r1 r2
          go_wp2
          go_region
          obtain ⟨Z, hZ⟩ : ∃ Z : World, Z = (((wr.setCell ⟨w.heap.size, 0, none⟩ (.int .i64 t.str)).setCell ⟨w.heap.size, 1, none⟩ (.int .i64 t.nst)).setCell ⟨w.heap.size, 2, none⟩ (Value.slice (some ⟨xg, xo, none⟩) xn xc)).drew := ⟨_, rfl⟩
          rw [← hZ]
          obtain ⟨s0, s1, s2⟩ := ret_rec3 (show Z.heap[w.heap.size]? = some (.cells #[.int .i64 t.str, .int .i64 t.nst, Value.slice (some ⟨xg, xo, none⟩) xn xc] 73) by rw [hZ]; exact blk_store3 hres.out)
          have HZB : Hid (Below w.heap.size w Z) := by unfold Hid; rw [hZ]; exact (below_set (below_set (below_set hb.out _ (by simp) _) _ (by simp) _) _ (by simp) _).drew
          have hs0 := blk_set hres.out 0 (.int .i64 t.str)
          have hs1 := blk_set hs0 1 (.int .i64 t.nst)
          simp only [List.setIfInBounds_toArray, List.set_cons_zero, List.set_cons_succ] at hs0 hs1
          have HZR : Hid (Rt Z (.slice (some ⟨xg, xo, none⟩) xn xc) t.txt) := by unfold Hid; rw [hZ]; exact (((HR.out.set hres.out (by decide)).set hs0 (by decide)).set hs1 (by decide)).below (Below.refl _ _).drew
          clear hs0 hs1
          clear hZ r0 r1 r2 g0 g1 g2 c0 c1 c2
          go_wp2
          refine bodyPost_ret (v := .tuple #[.bool true, .agg #[.int .i64 t.str, .int .i64 t.nst, Value.slice (some ⟨xg, xo, none⟩) xn xc]]) (by simp [results, Tryz.results42, go_sem, s0, s1, s2]; try rfl) rfl ?_
          exact .ok t _ rfl hst.out HZR.out HZB.out
      · have hbad : Hid (∀ t, stk E j ≠ some [t]) := fun t e => by
          rw [hst.out] at e
          have e := Option.some.inj e
          have e2 := congrArg List.length e
          rw [List.length_map, ← HL.out] at e2
          exact h1 e2
        have hq : ((L : Int) == 1) = false := by simp; omega
        have hq2 : ((L : Int) != 1) = true := by simp; omega
        have r0 := blk_cell hres.out 0
        have r1 := blk_cell hres.out 1
        have r2 := blk_cell hres.out 2
        have g0 := blk_unfrozen hres.out 0
        have g1 := blk_unfrozen hres.out 1
        have g2 := blk_unfrozen hres.out 2
        simp only [List.getElem?_toArray, List.getElem?_cons_zero, List.getElem?_cons_succ] at r0 r1 r2
        go_wp2
        obtain ⟨Z, hZ⟩ : ∃ Z : World, Z = ((wr.setCell ⟨w.heap.size, 0, none⟩ (.int .i64 0)).setCell ⟨w.heap.size, 1, none⟩ (.int .i64 0)).setCell ⟨w.heap.size, 2, none⟩ (.slice none 0 0) := ⟨_, rfl⟩
        rw [← hZ]
        obtain ⟨s0, s1, s2⟩ := ret_rec3 (show Z.heap[w.heap.size]? = some (.cells #[.int .i64 0, .int .i64 0, .slice none 0 0] 73) by rw [hZ]; exact blk_store3 hres.out)
        have HZB : Below w.heap.size w Z := by rw [hZ]; exact below_set (below_set (below_set hb.out _ (by simp) _) _ (by simp) _) _ (by simp) _
        clear hZ
        refine bodyPost_ret (v := .tuple #[.bool false, .agg #[.int .i64 0, .int .i64 0, .slice none 0 0]]) (by simp [results, Tryz.results42, go_sem, s0, s1, s2]; try rfl) rfl ?_
        exact .no rfl hbad.out HZB
set_option maxHeartbeats 3200000 in
set_option maxRecDepth 100000 in
/-- l2ExprText. -/
theorem xt : XT := by
  intro E a n cap w hs hn
  have FS := Hid.mk (fun (W : World) (h : SliceAt W a n 3 (fun i => (E i).cells)) => foldT E a n cap W h hn)
  have H := Hid.mk hs
  clear hs
  go_enter Tryz.func23, Tryz.ntmps23
  go_wp2_with fail
  refine (FS.out _ (H.out.below (by go_grown))).mono ?_
  rintro e w1 h1
  cases h1 with
  | ok t v he hs hR hb =>
    subst he
    have HR := Hid.mk hR
    obtain ⟨xg, xo, xc, rfl, -, -⟩ := hR
    have HB := Hid.mk (below_then (w := w) (by go_grown) hb)
    have HS := Hid.mk hs
    clear hb hs
    go_wp2
    go_ret
    refine ⟨_, _, _, rfl, below_alloc' HB.out _, fun t' ht' => ?_⟩
    have e1 : t = t' := by
      have := HS.out.symm.trans ht'
      injection this with this
      injection this
    subst e1
    exact HR.out.below (below_alloc' (Below.refl _ _) _)
  | no he hs hb =>
    subst he
    have HB := Hid.mk (below_then (w := w) (by go_grown) hb)
    have HS := Hid.mk hs
    clear hb hs
    go_wp2
    go_ret
    exact ⟨_, _, _, rfl, below_alloc' (below_alloc' HB.out _) _, fun t' ht' => absurd ht' (HS.out t')⟩
end Go.Proofs.YthobdaeglhdhnaaGreatDoor.Syn
