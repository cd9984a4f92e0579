import Derived.Test.YthobdaeglhdhnaaGreatDoorPp23
import Derived.Test.YthobdaeglhdhnaaGreatDoorPp12
import Derived.Deep.DrawnRows
import Derived.Deep.CutRange
import Derived.Deep.Cut
import Derived.Deep.DeepCutAuto
namespace Go.Proofs.YthobdaeglhdhnaaGreatDoor.Syn
open Go Go.RowKit Go.Proofs.YthobdaeglhdhnaaGreatDoor.Mem
open Go.Proofs.YthobdaeglhdhnaaGreatDoor.Print (Own infoB byteCells_one)
set_option linter.unusedVariables false
set_option linter.unusedSimpArgs false
attribute [local go_sem ↓] Go.wp_at_zero Go.wp_at_succ

/-- The text of a list of Ops. -/
def exprT (E : Nat → Po) (n : Nat) : List UInt8 := match stk E n with
  | some [t] => t.txt
  | _ => []
set_option maxHeartbeats 1600000 in
set_option maxRecDepth 100000 in
theorem appendOpsI (E : Nat → Po) (a : Option Addr) (n cap B : Nat) (bs : List UInt8) (x : Value) (w : World) (t : Tr) (ht : stk E n = some [t]) (hs : SliceAt w a n 3 (fun i => (E i).cells)) (hn : n ≤ 1048576) (hown : Own B w x bs) (hB : B ≤ w.heap.size) (hP : Ps B w) (hl : bs.length + t.txt.length ≤ 500000000) :
    Calls Tryz.prog 29 #[x, .slice a n cap] w (App B x w (bs ++ t.txt)) := by
  have HO := Hid.mk hown
  have HP := Hid.mk hP
  have HS := Hid.mk hs
  have HE := Hid.mk ht
  clear hown hP hs ht
  go_enter Tryz.func29, Tryz.ntmps29
  go_wp2_with fail
  refine (treeI E a n cap _ HS.out hn HP.out.t.now.t HP.out.t.now.o).mono ?_
  rintro e w1 hT
  cases hT with
  | no he hs hb => exact absurd HE.out (hs t)
  | ok v t' he hs hd hb =>
    obtain rfl : t' = t := by have := hs.symm.trans HE.out; simpa using this
    subst he
    obtain ⟨T, u, rfl⟩ := hd.form
    have HO1 := Hid.mk (own_bel' HO.out hb)
    have HK1 := Hid.mk (Kb.of (x := x) hb hB)
    have hB1 := Nat.le_trans hB HK1.out.1.size
    have HD := Hid.mk hd
    clear hs hd hb HO HS
    go_wp2_with fail
    refine (appOk t' ((stk_inv HE.out).1 t' (by simp)) (stk_ops HE.out t' (by simp)) B _ bs _ _ HO1.out hB1 (HP.out.on HK1.out.1) HD.out hl).mono ?_
    rintro e w3 ⟨v3, rfl, ho, hk⟩
    have HO3 := Hid.mk ho
    have HK3 := Hid.mk (HK1.out.trans hk)
    clear ho hk
    go_wp2
    go_ret
    exact ⟨v3, rfl, HO3.out, HK3.out⟩
set_option maxHeartbeats 1600000 in
set_option maxRecDepth 100000 in
theorem appendNumI (z : Int) (g c B : Nat) (fr : Nat × Nat) (bs : List UInt8) (x : Value) (w : World) (hz : -999999999 ≤ z) (hz' : z ≤ 999999999) (hg : w.heap[g]? = some (.cells #[.int .i64 z] 2 fr)) (hown : Own B w x bs) (hB : B ≤ w.heap.size) (hP : Ps B w) (hl : bs.length ≤ 700000000) :
    Calls Tryz.prog 30 #[x, .slice (some ⟨g, 0, none⟩) 1 c] w (App B x w (bs ++ [32] ++ Lib.itoa z)) := by
  have HO := Hid.mk hown
  have HP := Hid.mk hP
  have HG := Hid.mk hg
  clear hown hP hg
  go_enter Tryz.func30, Tryz.ntmps30
  go_wp2
  go_loopw [0, 9] (fun b i wr => ∃ j : Nat, j ≤ 1 ∧ i = .int .i64 (j : Int) ∧ Hid (Own B wr b (if j = 0 then bs else bs ++ [32] ++ Lib.itoa z)) ∧ Hid (Kb B x b w wr)) (fun _ i _ => 1 - (intOf i).toNat)
  case atStart => exact ⟨0, Nat.zero_le _, rfl, HO, Kb.refl B x w⟩
  case round =>
    obtain ⟨j, hj, rfl, ho, hkr⟩ := hrel
    have hBr := Nat.le_trans hB hkr.out.1.size
    by_cases h0 : j = 0
    · subst h0
      have ho' : Hid (Own B wr _ bs) := ho
      have y := blk_cell (hkr.out.blk HG.out (by decide)) 0
      simp only [List.getElem?_toArray, List.getElem?_cons_zero] at y
      clear ho HO
      go_wp2_with (at_builtin; refine wpList_byte rfl _ _ rfl B _ bs rfl (own_bel' ho'.out (below_alloc' (Below.refl _ _) _)) _ _ rfl 32 (blk_cell (blk_new _ _) 0) (by simp; omega) (by omega) ?_)
      intro v2 w2 ho2 hk2
      have HO2 := Hid.mk ho2
      have HK2 := Hid.mk ((hkr.out.alloc hBr _).trans hk2)
      have hB2 := Nat.le_trans hB HK2.out.1.size
      clear ho2 hk2 y
      refine Hid.out ?_
      refine Lib.hid ?_
      go_wp2_with fail
      refine (appendIntI B z (by omega) (by omega) _ (bs ++ [32]) _ HO2.out hB2 (by simp; omega) (HP.out.on HK2.out.1).p).mono ?_
      rintro e w3 ⟨v3, rfl, ho3, hk3⟩
      have HO3 := Hid.mk ho3
      have HK3 := Hid.mk (HK2.out.trans hk3)
      clear ho3 hk3
      go_wp2
      exact ⟨⟨1, by omega, by go_num, HO3, HK3⟩, by simp [intOf]⟩
    · obtain rfl : j = 1 := by omega
      have ho' := Hid.mk ho.out
      rw [if_neg (by omega)] at ho'
      clear ho
      go_wp2
      go_ret
      exact ⟨_, rfl, ho'.out, hkr.out⟩
/-- The text of a span. -/
def spanT (i : It) : List UInt8 := [32, 105, 110, 32] ++ Lib.itoa i.lo ++ [32, 46, 46, 32] ++ Lib.itoa i.hi
theorem itoa_len' {z : Int} (h : -999999999 ≤ z) (h' : z ≤ 999999999) : (Lib.itoa z).length ≤ 21 := by
  by_cases h0 : 0 ≤ z
  · have := itoa_len h0 h'; omega
  · obtain ⟨u, rfl⟩ : ∃ u : Nat, z = -(u : Int) := ⟨z.natAbs, by omega⟩
    rw [Lib.itoa_neg u (by omega)]
    have := dd_len (u := u) (by omega)
    simp only [List.length_cons]; omega
set_option maxHeartbeats 3200000 in
set_option maxRecDepth 100000 in
theorem appendSpanI (i : It) (l : Lo) (B : Nat) (bs : List UInt8) (x : Value) (w : World) (hl0 : -999999999 ≤ i.lo) (hl1 : i.lo ≤ 999999999) (hh0 : -999999999 ≤ i.hi) (hh1 : i.hi ≤ 999999999) (hown : Own B w x bs) (hB : B ≤ w.heap.size) (hP : Ps B w) (hl : bs.length ≤ 600000000) :
    Calls Tryz.prog 31 #[x, .agg #[.int .i64 i.k, .string ⟨i.n.toArray⟩, .slice l.aE i.nE l.cE, .slice l.aF i.nF l.cF, .int .i64 i.K, .int .i64 i.lo, .int .i64 i.hi]] w (App B x w (bs ++ spanT i)) := by
  obtain ⟨W0, hW0⟩ : ∃ W0, W0 = w.alloc (.cells #[.int .i64 i.k, .string ⟨i.n.toArray⟩, .slice l.aE i.nE l.cE, .slice l.aF i.nF l.cF, .int .i64 i.K, .int .i64 i.lo, .int .i64 i.hi] 42) := ⟨_, rfl⟩
  have HO := Hid.mk (own_bel' hown (below_alloc' (Below.refl _ _) (.cells #[.int .i64 i.k, .string ⟨i.n.toArray⟩, .slice l.aE i.nE l.cE, .slice l.aF i.nF l.cF, .int .i64 i.K, .int .i64 i.lo, .int .i64 i.hi] 42)))
  have HK := Hid.mk ((Kb.refl B x w).alloc hB (.cells #[.int .i64 i.k, .string ⟨i.n.toArray⟩, .slice l.aE i.nE l.cE, .slice l.aF i.nF l.cF, .int .i64 i.K, .int .i64 i.lo, .int .i64 i.hi] 42))
  have BX := Hid.mk (blk_new w (.cells #[.int .i64 i.k, .string ⟨i.n.toArray⟩, .slice l.aE i.nE l.cE, .slice l.aF i.nF l.cF, .int .i64 i.K, .int .i64 i.lo, .int .i64 i.hi] 42))
  rw [← hW0] at HO HK BX
  have HW0 := Hid.mk hW0
  have HP := Hid.mk hP
  have hll := itoa_len' hl0 hl1
  have HSP : Hid (spanT i = [32, 105, 110] ++ ([32] ++ Lib.itoa i.lo) ++ [32, 46, 46] ++ ([32] ++ Lib.itoa i.hi)) := by simp [Hid, spanT]
  rw [HSP.out]
  clear hown hP hW0 HSP
  go_enter Tryz.func31, Tryz.ntmps31
  go_upto_region 1 with fail
  rw [← HW0.out]
  clear HW0
  go_cut [0] (fun s wx => Hid (Own B wx s (bs ++ [32, 105, 110] ++ [32] ++ Lib.itoa i.lo)) ∧ Hid (Kb B x s w wx) ∧ Hid (wx.heap[w.heap.size]? = some (.cells #[.int .i64 i.k, .string ⟨i.n.toArray⟩, .slice l.aE i.nE l.cE, .slice l.aF i.nF l.cF, .int .i64 i.K, .int .i64 i.lo, .int .i64 i.hi] 42)))
  case first =>
    have hB1 := Nat.le_trans hB HK.out.1.size
    have HO := Hid.mk (own_bel' HO.out (Below.refl _ _).drew)
    have HK := Hid.mk HK.out.drew
    have BX : Hid (W0.drew.heap[w.heap.size]? = some (.cells #[.int .i64 i.k, .string ⟨i.n.toArray⟩, .slice l.aE i.nE l.cE, .slice l.aF i.nF l.cF, .int .i64 i.K, .int .i64 i.lo, .int .i64 i.hi] 42)) := BX
    refine wp_region_held_drew (S := (fun w' => w'.cell? ⟨w.heap.size, 0, none⟩ = some (.int .i64 i.k) ∧ w'.cell? ⟨w.heap.size, 1, none⟩ = some (.string ⟨i.n.toArray⟩) ∧ w'.cell? ⟨w.heap.size, 2, none⟩ = some (.slice l.aE i.nE l.cE) ∧ w'.cell? ⟨w.heap.size, 3, none⟩ = some (.slice l.aF i.nF l.cF) ∧ w'.cell? ⟨w.heap.size, 4, none⟩ = some (.int .i64 i.K) ∧ w'.cell? ⟨w.heap.size, 5, none⟩ = some (.int .i64 i.lo) ∧ w'.cell? ⟨w.heap.size, 6, none⟩ = some (.int .i64 i.hi))) (by kernel_rfl) ?_ (fun hHeld => ?_)
    · exact ⟨(blk_cell BX.out 0).trans rfl, (blk_cell BX.out 1).trans rfl, (blk_cell BX.out 2).trans rfl, (blk_cell BX.out 3).trans rfl, (blk_cell BX.out 4).trans rfl, (blk_cell BX.out 5).trans rfl, (blk_cell BX.out 6).trans rfl⟩
    refine wpAnyH_take (i := 0) (v := ?_) rfl (by kernel_rfl) (by kernel_rfl) (by kernel_rfl) (fun _ _ _ h => h) (Or.inl ⟨by rfl, ?_⟩) (by assumption) ?_
    rotate_left
    · intro w hSw; (try dsimp only at hSw); go_simp; (try with_reducible rfl)
    rotate_left
    simp only [Act.put, List.setIfInBounds_toArray, List.set_cons_zero, List.set_cons_succ, List.getElem_toArray, List.getElem_cons_zero, List.getElem_cons_succ]
    refine wpAnyH_take (i := 2) (v := ?_) rfl (by kernel_rfl) (by kernel_rfl) (by kernel_rfl) (fun _ _ _ h => h) (Or.inl ⟨by rfl, ?_⟩) (by assumption) ?_
    rotate_left
    · intro w hSw; (try dsimp only at hSw); go_simp; (try with_reducible rfl)
    rotate_left
    simp only [Act.put, List.setIfInBounds_toArray, List.set_cons_zero, List.set_cons_succ, List.getElem_toArray, List.getElem_cons_zero, List.getElem_cons_succ]
    refine wpAnyH_take (i := 3) (v := ?_) rfl (by kernel_rfl) (by kernel_rfl) (by kernel_rfl) (fun _ _ _ h => h) (Or.inl ⟨by rfl, ?_⟩) (by assumption) ?_
    rotate_left
    · intro w hSw; (try dsimp only at hSw); go_simp; (try with_reducible rfl)
    rotate_left
    simp only [Act.put, List.setIfInBounds_toArray, List.set_cons_zero, List.set_cons_succ, List.getElem_toArray, List.getElem_cons_zero, List.getElem_cons_succ]
    refine wpAnyH_ready (rs := [1, 4]) (by kernel_rfl) (by simp) ?_
    refine AllReadyH.cons rfl (fun K hK => ?_) ?_
    · rw [if_pos (by rfl)]
      refine wp_str _ _ rfl B _ _ rfl HO.out [32, 105, 110] rfl hB1 (by simp only [List.length_append, List.length_cons, List.length_nil]; omega) ?_
      intro v2 w2 ho2 hk2
      (try have SB := Hid.mk (hk2.blk SB.out (by decide)))
      have BX := Hid.mk (hk2.blk BX.out (by decide))
      have HO := Hid.mk ho2
      have HK := Hid.mk (HK.out.trans hk2)
      have hB1 := Nat.le_trans hB HK.out.1.size
      clear ho2 hk2
      refine hK.out _ _ ?_ (fun hHeld => ?_)
      · exact ⟨(blk_cell BX.out 0).trans rfl, (blk_cell BX.out 1).trans rfl, (blk_cell BX.out 2).trans rfl, (blk_cell BX.out 3).trans rfl, (blk_cell BX.out 4).trans rfl, (blk_cell BX.out 5).trans rfl, (blk_cell BX.out 6).trans rfl⟩
      clear hK K
      (try simp only [Act.put, List.setIfInBounds_toArray, List.set_cons_zero, List.set_cons_succ, List.getElem_toArray, List.getElem_cons_zero, List.getElem_cons_succ])
      refine wpAnyH_ready (rs := [4]) (by kernel_rfl) (by simp) ?_
      refine AllReadyH.cons rfl (fun K hK => ?_) ?_
      · go_simp
        have SB := Hid.mk (kb_new HK.out (.cells #[.int .i64 i.lo] 2))
        have HO := Hid.mk (own_bel' HO.out (below_alloc' (Below.refl _ _) (.cells #[.int .i64 i.lo] 2)))
        have HK := Hid.mk (HK.out.alloc hB1 (.cells #[.int .i64 i.lo] 2))
        have BX := Hid.mk (blk_alloc BX.out (.cells #[.int .i64 i.lo] 2))
        have hB1 := Nat.le_trans hB HK.out.1.size
        refine hK.out _ _ ?_ (fun hHeld => ?_)
        · exact ⟨(blk_cell BX.out 0).trans rfl, (blk_cell BX.out 1).trans rfl, (blk_cell BX.out 2).trans rfl, (blk_cell BX.out 3).trans rfl, (blk_cell BX.out 4).trans rfl, (blk_cell BX.out 5).trans rfl, (blk_cell BX.out 6).trans rfl⟩
        clear hK K
        (try simp only [Act.put, List.setIfInBounds_toArray, List.set_cons_zero, List.set_cons_succ, List.getElem_toArray, List.getElem_cons_zero, List.getElem_cons_succ])
        refine wpAnyH_ready (rs := [5]) (by kernel_rfl) (by simp) ?_
        refine AllReadyH.cons rfl (fun K hK => ?_) ?_
        · go_simp
          refine (appendNumI (i.lo) _ _ B _ _ _ _ (by omega) (by omega) SB.out HO.out hB1 (HP.out.on HK.out.1) (by simp only [List.length_append, List.length_cons, List.length_nil]; omega)).mono ?_
          rintro e w3 ⟨v3, rfl, ho3, hk3⟩
          have BX := Hid.mk (hk3.blk BX.out (by decide))
          have HO := Hid.mk ho3
          have HK := Hid.mk (HK.out.trans hk3)
          have hB1 := Nat.le_trans hB HK.out.1.size
          clear ho3 hk3
          refine hK.out _ _ ?_ (fun hHeld => ?_)
          · exact ⟨(blk_cell BX.out 0).trans rfl, (blk_cell BX.out 1).trans rfl, (blk_cell BX.out 2).trans rfl, (blk_cell BX.out 3).trans rfl, (blk_cell BX.out 4).trans rfl, (blk_cell BX.out 5).trans rfl, (blk_cell BX.out 6).trans rfl⟩
          clear hK K
          (try simp only [Act.put, List.setIfInBounds_toArray, List.set_cons_zero, List.set_cons_succ, List.getElem_toArray, List.getElem_cons_zero, List.getElem_cons_succ])
          refine wpAnyH_take (i := 6) (v := ?_) rfl (by kernel_rfl) (by kernel_rfl) (by kernel_rfl) (fun _ _ _ h => h) (Or.inl ⟨by rfl, ?_⟩) (by assumption) ?_
          rotate_left
          · intro w hSw; (try dsimp only at hSw); go_simp; (try with_reducible rfl)
          rotate_left
          simp only [Act.put, List.setIfInBounds_toArray, List.set_cons_zero, List.set_cons_succ, List.getElem_toArray, List.getElem_cons_zero, List.getElem_cons_succ]
          refine wpAnyH_done (by kernel_rfl) ?_ _
          go_wp2_with fail
          go_meet
          exact ⟨HO, HK, BX⟩
        exact AllReadyH.nil
      exact AllReadyH.nil
    refine AllReadyH.cons rfl (fun K hK => ?_) ?_
    · go_simp
      have SB := Hid.mk (kb_new HK.out (.cells #[.int .i64 i.lo] 2))
      have HO := Hid.mk (own_bel' HO.out (below_alloc' (Below.refl _ _) (.cells #[.int .i64 i.lo] 2)))
      have HK := Hid.mk (HK.out.alloc hB1 (.cells #[.int .i64 i.lo] 2))
      have BX := Hid.mk (blk_alloc BX.out (.cells #[.int .i64 i.lo] 2))
      have hB1 := Nat.le_trans hB HK.out.1.size
      refine hK.out _ _ ?_ (fun hHeld => ?_)
      · exact ⟨(blk_cell BX.out 0).trans rfl, (blk_cell BX.out 1).trans rfl, (blk_cell BX.out 2).trans rfl, (blk_cell BX.out 3).trans rfl, (blk_cell BX.out 4).trans rfl, (blk_cell BX.out 5).trans rfl, (blk_cell BX.out 6).trans rfl⟩
      clear hK K
      (try simp only [Act.put, List.setIfInBounds_toArray, List.set_cons_zero, List.set_cons_succ, List.getElem_toArray, List.getElem_cons_zero, List.getElem_cons_succ])
      refine wpAnyH_ready (rs := [1]) (by kernel_rfl) (by simp) ?_
      refine AllReadyH.cons rfl (fun K hK => ?_) ?_
      · rw [if_pos (by rfl)]
        refine wp_str _ _ rfl B _ _ rfl HO.out [32, 105, 110] rfl hB1 (by simp only [List.length_append, List.length_cons, List.length_nil]; omega) ?_
        intro v2 w2 ho2 hk2
        (try have SB := Hid.mk (hk2.blk SB.out (by decide)))
        have BX := Hid.mk (hk2.blk BX.out (by decide))
        have HO := Hid.mk ho2
        have HK := Hid.mk (HK.out.trans hk2)
        have hB1 := Nat.le_trans hB HK.out.1.size
        clear ho2 hk2
        refine hK.out _ _ ?_ (fun hHeld => ?_)
        · exact ⟨(blk_cell BX.out 0).trans rfl, (blk_cell BX.out 1).trans rfl, (blk_cell BX.out 2).trans rfl, (blk_cell BX.out 3).trans rfl, (blk_cell BX.out 4).trans rfl, (blk_cell BX.out 5).trans rfl, (blk_cell BX.out 6).trans rfl⟩
        clear hK K
        (try simp only [Act.put, List.setIfInBounds_toArray, List.set_cons_zero, List.set_cons_succ, List.getElem_toArray, List.getElem_cons_zero, List.getElem_cons_succ])
        refine wpAnyH_ready (rs := [5]) (by kernel_rfl) (by simp) ?_
        refine AllReadyH.cons rfl (fun K hK => ?_) ?_
        · go_simp
          refine (appendNumI (i.lo) _ _ B _ _ _ _ (by omega) (by omega) SB.out HO.out hB1 (HP.out.on HK.out.1) (by simp only [List.length_append, List.length_cons, List.length_nil]; omega)).mono ?_
          rintro e w3 ⟨v3, rfl, ho3, hk3⟩
          have BX := Hid.mk (hk3.blk BX.out (by decide))
          have HO := Hid.mk ho3
          have HK := Hid.mk (HK.out.trans hk3)
          have hB1 := Nat.le_trans hB HK.out.1.size
          clear ho3 hk3
          refine hK.out _ _ ?_ (fun hHeld => ?_)
          · exact ⟨(blk_cell BX.out 0).trans rfl, (blk_cell BX.out 1).trans rfl, (blk_cell BX.out 2).trans rfl, (blk_cell BX.out 3).trans rfl, (blk_cell BX.out 4).trans rfl, (blk_cell BX.out 5).trans rfl, (blk_cell BX.out 6).trans rfl⟩
          clear hK K
          (try simp only [Act.put, List.setIfInBounds_toArray, List.set_cons_zero, List.set_cons_succ, List.getElem_toArray, List.getElem_cons_zero, List.getElem_cons_succ])
          refine wpAnyH_take (i := 6) (v := ?_) rfl (by kernel_rfl) (by kernel_rfl) (by kernel_rfl) (fun _ _ _ h => h) (Or.inl ⟨by rfl, ?_⟩) (by assumption) ?_
          rotate_left
          · intro w hSw; (try dsimp only at hSw); go_simp; (try with_reducible rfl)
          rotate_left
          simp only [Act.put, List.setIfInBounds_toArray, List.set_cons_zero, List.set_cons_succ, List.getElem_toArray, List.getElem_cons_zero, List.getElem_cons_succ]
          refine wpAnyH_done (by kernel_rfl) ?_ _
          go_wp2_with fail
          go_meet
          exact ⟨HO, HK, BX⟩
        exact AllReadyH.nil
      exact AllReadyH.nil
    exact AllReadyH.nil
  case rest =>
    clear HO HK BX
    obtain ⟨HO, HK, BX⟩ := hcut
    have hB1 := Nat.le_trans hB HK.out.1.size
    go_upto_region 2 with fail
    have HO := Hid.mk (own_bel' HO.out (Below.refl _ _).drew)
    have HK := Hid.mk HK.out.drew
    have BX : Hid (wc.drew.heap[w.heap.size]? = some (.cells #[.int .i64 i.k, .string ⟨i.n.toArray⟩, .slice l.aE i.nE l.cE, .slice l.aF i.nF l.cF, .int .i64 i.K, .int .i64 i.lo, .int .i64 i.hi] 42)) := BX
    refine wp_region_held_drew (S := (fun w' => w'.cell? ⟨w.heap.size, 0, none⟩ = some (.int .i64 i.k) ∧ w'.cell? ⟨w.heap.size, 1, none⟩ = some (.string ⟨i.n.toArray⟩) ∧ w'.cell? ⟨w.heap.size, 2, none⟩ = some (.slice l.aE i.nE l.cE) ∧ w'.cell? ⟨w.heap.size, 3, none⟩ = some (.slice l.aF i.nF l.cF) ∧ w'.cell? ⟨w.heap.size, 4, none⟩ = some (.int .i64 i.K) ∧ w'.cell? ⟨w.heap.size, 5, none⟩ = some (.int .i64 i.lo) ∧ w'.cell? ⟨w.heap.size, 6, none⟩ = some (.int .i64 i.hi))) (by kernel_rfl) ?_ (fun hHeld => ?_)
    · exact ⟨(blk_cell BX.out 0).trans rfl, (blk_cell BX.out 1).trans rfl, (blk_cell BX.out 2).trans rfl, (blk_cell BX.out 3).trans rfl, (blk_cell BX.out 4).trans rfl, (blk_cell BX.out 5).trans rfl, (blk_cell BX.out 6).trans rfl⟩
    refine wpAnyH_take (i := 0) (v := ?_) rfl (by kernel_rfl) (by kernel_rfl) (by kernel_rfl) (fun _ _ _ h => h) (Or.inl ⟨by rfl, ?_⟩) (by assumption) ?_
    rotate_left
    · intro w hSw; (try dsimp only at hSw); go_simp; (try with_reducible rfl)
    rotate_left
    simp only [Act.put, List.setIfInBounds_toArray, List.set_cons_zero, List.set_cons_succ, List.getElem_toArray, List.getElem_cons_zero, List.getElem_cons_succ]
    refine wpAnyH_take (i := 2) (v := ?_) rfl (by kernel_rfl) (by kernel_rfl) (by kernel_rfl) (fun _ _ _ h => h) (Or.inl ⟨by rfl, ?_⟩) (by assumption) ?_
    rotate_left
    · intro w hSw; (try dsimp only at hSw); go_simp; (try with_reducible rfl)
    rotate_left
    simp only [Act.put, List.setIfInBounds_toArray, List.set_cons_zero, List.set_cons_succ, List.getElem_toArray, List.getElem_cons_zero, List.getElem_cons_succ]
    refine wpAnyH_take (i := 3) (v := ?_) rfl (by kernel_rfl) (by kernel_rfl) (by kernel_rfl) (fun _ _ _ h => h) (Or.inl ⟨by rfl, ?_⟩) (by assumption) ?_
    rotate_left
    · intro w hSw; (try dsimp only at hSw); go_simp; (try with_reducible rfl)
    rotate_left
    simp only [Act.put, List.setIfInBounds_toArray, List.set_cons_zero, List.set_cons_succ, List.getElem_toArray, List.getElem_cons_zero, List.getElem_cons_succ]
    refine wpAnyH_ready (rs := [1, 4]) (by kernel_rfl) (by simp) ?_
    refine AllReadyH.cons rfl (fun K hK => ?_) ?_
    · rw [if_pos (by rfl)]
      refine wp_str _ _ rfl B _ _ rfl HO.out [32, 46, 46] rfl hB1 (by simp only [List.length_append, List.length_cons, List.length_nil]; omega) ?_
      intro v2 w2 ho2 hk2
      (try have SB := Hid.mk (hk2.blk SB.out (by decide)))
      have BX := Hid.mk (hk2.blk BX.out (by decide))
      have HO := Hid.mk ho2
      have HK := Hid.mk (HK.out.trans hk2)
      have hB1 := Nat.le_trans hB HK.out.1.size
      clear ho2 hk2
      refine hK.out _ _ ?_ (fun hHeld => ?_)
      · exact ⟨(blk_cell BX.out 0).trans rfl, (blk_cell BX.out 1).trans rfl, (blk_cell BX.out 2).trans rfl, (blk_cell BX.out 3).trans rfl, (blk_cell BX.out 4).trans rfl, (blk_cell BX.out 5).trans rfl, (blk_cell BX.out 6).trans rfl⟩
      clear hK K
      (try simp only [Act.put, List.setIfInBounds_toArray, List.set_cons_zero, List.set_cons_succ, List.getElem_toArray, List.getElem_cons_zero, List.getElem_cons_succ])
      refine wpAnyH_ready (rs := [4]) (by kernel_rfl) (by simp) ?_
      refine AllReadyH.cons rfl (fun K hK => ?_) ?_
      · go_simp
        have SB := Hid.mk (kb_new HK.out (.cells #[.int .i64 i.hi] 2))
        have HO := Hid.mk (own_bel' HO.out (below_alloc' (Below.refl _ _) (.cells #[.int .i64 i.hi] 2)))
        have HK := Hid.mk (HK.out.alloc hB1 (.cells #[.int .i64 i.hi] 2))
        have BX := Hid.mk (blk_alloc BX.out (.cells #[.int .i64 i.hi] 2))
        have hB1 := Nat.le_trans hB HK.out.1.size
        refine hK.out _ _ ?_ (fun hHeld => ?_)
        · exact ⟨(blk_cell BX.out 0).trans rfl, (blk_cell BX.out 1).trans rfl, (blk_cell BX.out 2).trans rfl, (blk_cell BX.out 3).trans rfl, (blk_cell BX.out 4).trans rfl, (blk_cell BX.out 5).trans rfl, (blk_cell BX.out 6).trans rfl⟩
        clear hK K
        (try simp only [Act.put, List.setIfInBounds_toArray, List.set_cons_zero, List.set_cons_succ, List.getElem_toArray, List.getElem_cons_zero, List.getElem_cons_succ])
        refine wpAnyH_ready (rs := [5]) (by kernel_rfl) (by simp) ?_
        refine AllReadyH.cons rfl (fun K hK => ?_) ?_
        · go_simp
          refine (appendNumI (i.hi) _ _ B _ _ _ _ (by omega) (by omega) SB.out HO.out hB1 (HP.out.on HK.out.1) (by simp only [List.length_append, List.length_cons, List.length_nil]; omega)).mono ?_
          rintro e w3 ⟨v3, rfl, ho3, hk3⟩
          have BX := Hid.mk (hk3.blk BX.out (by decide))
          have HO := Hid.mk ho3
          have HK := Hid.mk (HK.out.trans hk3)
          have hB1 := Nat.le_trans hB HK.out.1.size
          clear ho3 hk3
          refine hK.out _ _ ?_ (fun hHeld => ?_)
          · exact ⟨(blk_cell BX.out 0).trans rfl, (blk_cell BX.out 1).trans rfl, (blk_cell BX.out 2).trans rfl, (blk_cell BX.out 3).trans rfl, (blk_cell BX.out 4).trans rfl, (blk_cell BX.out 5).trans rfl, (blk_cell BX.out 6).trans rfl⟩
          clear hK K
          (try simp only [Act.put, List.setIfInBounds_toArray, List.set_cons_zero, List.set_cons_succ, List.getElem_toArray, List.getElem_cons_zero, List.getElem_cons_succ])
          refine wpAnyH_take (i := 6) (v := ?_) rfl (by kernel_rfl) (by kernel_rfl) (by kernel_rfl) (fun _ _ _ h => h) (Or.inl ⟨by rfl, ?_⟩) (by assumption) ?_
          rotate_left
          · intro w hSw; (try dsimp only at hSw); go_simp; (try with_reducible rfl)
          rotate_left
          simp only [Act.put, List.setIfInBounds_toArray, List.set_cons_zero, List.set_cons_succ, List.getElem_toArray, List.getElem_cons_zero, List.getElem_cons_succ]
          refine wpAnyH_done (by kernel_rfl) ?_ _
          go_wp2
          go_ret
          exact ⟨v3, rfl, by have z := HO.out; simpa [List.append_assoc] using z, HK.out⟩
        exact AllReadyH.nil
      exact AllReadyH.nil
    refine AllReadyH.cons rfl (fun K hK => ?_) ?_
    · go_simp
      have SB := Hid.mk (kb_new HK.out (.cells #[.int .i64 i.hi] 2))
      have HO := Hid.mk (own_bel' HO.out (below_alloc' (Below.refl _ _) (.cells #[.int .i64 i.hi] 2)))
      have HK := Hid.mk (HK.out.alloc hB1 (.cells #[.int .i64 i.hi] 2))
      have BX := Hid.mk (blk_alloc BX.out (.cells #[.int .i64 i.hi] 2))
      have hB1 := Nat.le_trans hB HK.out.1.size
      refine hK.out _ _ ?_ (fun hHeld => ?_)
      · exact ⟨(blk_cell BX.out 0).trans rfl, (blk_cell BX.out 1).trans rfl, (blk_cell BX.out 2).trans rfl, (blk_cell BX.out 3).trans rfl, (blk_cell BX.out 4).trans rfl, (blk_cell BX.out 5).trans rfl, (blk_cell BX.out 6).trans rfl⟩
      clear hK K
      (try simp only [Act.put, List.setIfInBounds_toArray, List.set_cons_zero, List.set_cons_succ, List.getElem_toArray, List.getElem_cons_zero, List.getElem_cons_succ])
      refine wpAnyH_ready (rs := [1]) (by kernel_rfl) (by simp) ?_
      refine AllReadyH.cons rfl (fun K hK => ?_) ?_
      · rw [if_pos (by rfl)]
        refine wp_str _ _ rfl B _ _ rfl HO.out [32, 46, 46] rfl hB1 (by simp only [List.length_append, List.length_cons, List.length_nil]; omega) ?_
        intro v2 w2 ho2 hk2
        (try have SB := Hid.mk (hk2.blk SB.out (by decide)))
        have BX := Hid.mk (hk2.blk BX.out (by decide))
        have HO := Hid.mk ho2
        have HK := Hid.mk (HK.out.trans hk2)
        have hB1 := Nat.le_trans hB HK.out.1.size
        clear ho2 hk2
        refine hK.out _ _ ?_ (fun hHeld => ?_)
        · exact ⟨(blk_cell BX.out 0).trans rfl, (blk_cell BX.out 1).trans rfl, (blk_cell BX.out 2).trans rfl, (blk_cell BX.out 3).trans rfl, (blk_cell BX.out 4).trans rfl, (blk_cell BX.out 5).trans rfl, (blk_cell BX.out 6).trans rfl⟩
        clear hK K
        (try simp only [Act.put, List.setIfInBounds_toArray, List.set_cons_zero, List.set_cons_succ, List.getElem_toArray, List.getElem_cons_zero, List.getElem_cons_succ])
        refine wpAnyH_ready (rs := [5]) (by kernel_rfl) (by simp) ?_
        refine AllReadyH.cons rfl (fun K hK => ?_) ?_
        · go_simp
          refine (appendNumI (i.hi) _ _ B _ _ _ _ (by omega) (by omega) SB.out HO.out hB1 (HP.out.on HK.out.1) (by simp only [List.length_append, List.length_cons, List.length_nil]; omega)).mono ?_
          rintro e w3 ⟨v3, rfl, ho3, hk3⟩
          have BX := Hid.mk (hk3.blk BX.out (by decide))
          have HO := Hid.mk ho3
          have HK := Hid.mk (HK.out.trans hk3)
          have hB1 := Nat.le_trans hB HK.out.1.size
          clear ho3 hk3
          refine hK.out _ _ ?_ (fun hHeld => ?_)
          · exact ⟨(blk_cell BX.out 0).trans rfl, (blk_cell BX.out 1).trans rfl, (blk_cell BX.out 2).trans rfl, (blk_cell BX.out 3).trans rfl, (blk_cell BX.out 4).trans rfl, (blk_cell BX.out 5).trans rfl, (blk_cell BX.out 6).trans rfl⟩
          clear hK K
          (try simp only [Act.put, List.setIfInBounds_toArray, List.set_cons_zero, List.set_cons_succ, List.getElem_toArray, List.getElem_cons_zero, List.getElem_cons_succ])
          refine wpAnyH_take (i := 6) (v := ?_) rfl (by kernel_rfl) (by kernel_rfl) (by kernel_rfl) (fun _ _ _ h => h) (Or.inl ⟨by rfl, ?_⟩) (by assumption) ?_
          rotate_left
          · intro w hSw; (try dsimp only at hSw); go_simp; (try with_reducible rfl)
          rotate_left
          simp only [Act.put, List.setIfInBounds_toArray, List.set_cons_zero, List.set_cons_succ, List.getElem_toArray, List.getElem_cons_zero, List.getElem_cons_succ]
          refine wpAnyH_done (by kernel_rfl) ?_ _
          go_wp2
          go_ret
          exact ⟨v3, rfl, by have z := HO.out; simpa [List.append_assoc] using z, HK.out⟩
        exact AllReadyH.nil
      exact AllReadyH.nil
    exact AllReadyH.nil
end Go.Proofs.YthobdaeglhdhnaaGreatDoor.Syn
