import Derived.Test.YthobdaeglhdhnaaGreatDoorPp22
import Derived.Deep.DrawnRows
import Derived.Deep.CutRange
import Derived.Deep.Cut
import Derived.Deep.DeepCutAuto
namespace Go.Proofs.YthobdaeglhdhnaaGreatDoor.Syn
open Go Go.RowKit Go.Proofs.YthobdaeglhdhnaaGreatDoor.Mem
open Go.Proofs.YthobdaeglhdhnaaGreatDoor.Print (Own infoB byteCells_one)
set_option linter.unusedVariables false
set_option linter.unusedSimpArgs false
attribute [local go_sem ↓] Go.wp_at_zero Go.wp_at_succ

theorem as_ll (v : Value) (w : World) : (Instr.typeAssert (.iface 103 v) 84 103 true).run Tryz.prog w = .ok (.tuple #[v, .bool true]) w := by kernel_rfl
theorem as_pl (v : Value) (w : World) : (Instr.typeAssert (.iface 106 v) 84 103 true).run Tryz.prog w = .ok (.tuple #[.agg #[.int .i64 0, .int .i64 0, .string ⟨#[]⟩], .bool false]) w := by kernel_rfl
theorem as_pp (v : Value) (w : World) : (Instr.typeAssert (.iface 106 v) 84 106 true).run Tryz.prog w = .ok (.tuple #[v, .bool true]) w := by kernel_rfl
theorem as_bl (v : Value) (w : World) : (Instr.typeAssert (.iface 110 v) 84 103 true).run Tryz.prog w = .ok (.tuple #[.agg #[.int .i64 0, .int .i64 0, .string ⟨#[]⟩], .bool false]) w := by kernel_rfl
theorem as_bp (v : Value) (w : World) : (Instr.typeAssert (.iface 110 v) 84 106 true).run Tryz.prog w = .ok (.tuple #[.agg #[.int .i64 0, .int .i64 0, .string ⟨#[]⟩, .nilIface], .bool false]) w := by kernel_rfl
theorem as_bb (v : Value) (w : World) : (Instr.typeAssert (.iface 110 v) 84 110 true).run Tryz.prog w = .ok (.tuple #[v, .bool true]) w := by kernel_rfl
theorem as_cl (v : Value) (w : World) : (Instr.typeAssert (.iface 113 v) 84 103 true).run Tryz.prog w = .ok (.tuple #[.agg #[.int .i64 0, .int .i64 0, .string ⟨#[]⟩], .bool false]) w := by kernel_rfl
theorem as_cp (v : Value) (w : World) : (Instr.typeAssert (.iface 113 v) 84 106 true).run Tryz.prog w = .ok (.tuple #[.agg #[.int .i64 0, .int .i64 0, .string ⟨#[]⟩, .nilIface], .bool false]) w := by kernel_rfl
theorem as_cb (v : Value) (w : World) : (Instr.typeAssert (.iface 113 v) 84 110 true).run Tryz.prog w = .ok (.tuple #[.agg #[.int .i64 0, .int .i64 0, .string ⟨#[]⟩, .nilIface, .nilIface], .bool false]) w := by kernel_rfl
theorem as_cc (v : Value) (w : World) : (Instr.typeAssert (.iface 113 v) 84 113 true).run Tryz.prog w = .ok (.tuple #[v, .bool true]) w := by kernel_rfl
set_option maxHeartbeats 1600000 in
set_option maxRecDepth 100000 in
theorem exprLeaf (o : Po) (hop : opB o = true) (hk6 : o.k ≤ 6) : AppOk (.leaf o) := by
  intro B w bs x nv hown hB hP hD hl
  cases hD
  have HO := Hid.mk (own_bel' hown (below_alloc' (Below.refl _ _) (.cells #[.int .i64 o.k, .int .i64 o.v, .string ⟨o.n.toArray⟩] 103)))
  have HK := Hid.mk ((Kb.refl B x w).alloc hB (.cells #[.int .i64 o.k, .int .i64 o.v, .string ⟨o.n.toArray⟩] 103))
  have HP := Hid.mk (hP.on HK.out.1)
  have hB1 : B ≤ (w.alloc (.cells #[.int .i64 o.k, .int .i64 o.v, .string ⟨o.n.toArray⟩] 103)).heap.size := by simp; omega
  clear hown hP
  have hl' : bs.length ≤ 500000000 := by omega
  clear hl
  have q1 := as_ll
  go_enter Tryz.func50, Tryz.ntmps50
  go_wp2_with fail
  refine (appendLeafI o B bs x _ hop hk6 HO.out hB1 HP.out hl').mono ?_
  rintro e w1 ⟨v1, rfl, ho, hk⟩
  have HO2 := Hid.mk ho
  have HK2 := Hid.mk (HK.out.trans hk)
  clear ho hk
  go_wp2
  go_ret
  exact ⟨v1, rfl, HO2.out, HK2.out⟩
set_option maxHeartbeats 1600000 in
set_option maxRecDepth 100000 in
theorem exprCall (o : Po) (N : Nat) (ts : Nat → Tr) (vs : Nat → Value) (g off c : Nat) (B : Nat) (w : World) (bs : List UInt8) (x : Value) (hA : ∀ i, i < N → AppOk (ts i)) (hD : ∀ i, i < N → Nd w none (vs i) (ts i)) (hk : Nk w g) (hc : ∀ i, i < N → w.cell? ⟨g, off + i, none⟩ = some (vs i)) (hn : N ≤ 3) (h0 : 0 ≤ o.v) (h2 : o.v ≤ 2)
    (hown : Own B w x bs) (hB : B ≤ w.heap.size) (hP : Ps B w) (hl : bs.length + (twAt (25 + o.v.toNat)).length + 2 + (jn ts N).length ≤ 500000000) :
    Calls Tryz.prog 50 #[x, .iface 113 (.agg #[.int .i64 o.k, .int .i64 o.v, .string ⟨o.n.toArray⟩, .slice (some ⟨g, off, none⟩) N c])] w (App B x w (bs ++ twAt (25 + o.v.toNat) ++ [40] ++ jn ts N ++ [41])) := by
  have HO := Hid.mk (own_bel' hown (below_alloc' (Below.refl _ _) (.cells #[.int .i64 o.k, .int .i64 o.v, .string ⟨o.n.toArray⟩, .slice (some ⟨g, off, none⟩) N c] 113)))
  have HK := Hid.mk ((Kb.refl B x w).alloc hB (.cells #[.int .i64 o.k, .int .i64 o.v, .string ⟨o.n.toArray⟩, .slice (some ⟨g, off, none⟩) N c] 113))
  have HP := Hid.mk (hP.on HK.out.1)
  have hB1 : B ≤ (w.alloc (.cells #[.int .i64 o.k, .int .i64 o.v, .string ⟨o.n.toArray⟩, .slice (some ⟨g, off, none⟩) N c] 113)).heap.size := by simp; omega
  have HA := Hid.mk hA
  have hbx := below_alloc' (Below.refl w.heap.size w) (.cells #[.int .i64 o.k, .int .i64 o.v, .string ⟨o.n.toArray⟩, .slice (some ⟨g, off, none⟩) N c] 113)
  have HD := Hid.mk (fun i hi => (hD i hi).kept hbx)
  have HC := Hid.mk (fun i hi => cell_keep hbx (hc i hi))
  have HNK := Hid.mk (hk.below hbx)
  have HL := Hid.mk hl
  clear hown hP hA hD hc hk hbx hl
  obtain ⟨m, hm⟩ : ∃ m : Nat, o.v = (m : Int) := ⟨o.v.toNat, by omega⟩
  have hm2 : m ≤ 2 := by omega
  have HM := Hid.mk hm
  clear hm h0 h2
  have q1 := as_cl
  have q2 := as_cp
  have q3 := as_cb
  have q4 := as_cc
  go_enter Tryz.func50, Tryz.ntmps50
  go_wp2_with fail
  have key := appendCallI N ts vs o.k m ⟨o.n.toArray⟩ g off c B (w.alloc (.cells #[.int .i64 o.k, .int .i64 o.v, .string ⟨o.n.toArray⟩, .slice (some ⟨g, off, none⟩) N c] 113)) bs x HA.out HD.out HNK.out HC.out hn hm2 HO.out hB1 HP.out (by have z := HL.out; rw [HM.out, Int.toNat_natCast] at z; exact z)
  rw [← HM.out] at key
  refine key.mono ?_
  rintro e w1 ⟨v1, rfl, ho, hk⟩
  have HO2 := Hid.mk ho
  have HK2 := Hid.mk (HK.out.trans hk)
  clear ho hk key
  go_wp2
  go_ret
  exact ⟨v1, rfl, by have z := HO2.out; rw [HM.out, Int.toNat_natCast]; simpa [List.append_assoc] using z, HK2.out⟩
set_option maxHeartbeats 3200000 in
set_option maxRecDepth 100000 in
theorem exprPre (o : Po) (a : Tr) (hk : o.k = 7 ∨ o.k = 8) (hA : AppOk a) (hw : a.wf) : AppOk (.pre o a) := by
  intro B w bs x nv hown hB hP hD hl
  cases hD with
  | pre _ v _ h =>
  obtain ⟨T, u, rfl⟩ := h.form
  have HO := Hid.mk (own_bel' hown (below_alloc' (Below.refl _ _) (.cells #[.int .i64 o.k, .int .i64 o.v, .string ⟨o.n.toArray⟩, .iface T u] 106)))
  have HK := Hid.mk ((Kb.refl B x w).alloc hB (.cells #[.int .i64 o.k, .int .i64 o.v, .string ⟨o.n.toArray⟩, .iface T u] 106))
  have HP := Hid.mk (hP.on HK.out.1)
  have hB1 : B ≤ (w.alloc (.cells #[.int .i64 o.k, .int .i64 o.v, .string ⟨o.n.toArray⟩, .iface T u] 106)).heap.size := by simp; omega
  have HP0 := Hid.mk hP
  have HD := Hid.mk h
  have HA := Hid.mk hA
  have HW := Hid.mk hw
  have BX := Hid.mk (blk_new w (.cells #[.int .i64 o.k, .int .i64 o.v, .string ⟨o.n.toArray⟩, .iface T u] 106))
  have hpl : (preT o).length ≤ 4 := by unfold preT; split <;> simp
  have hl' : bs.length + ((preT o).length + (par (decide (a.str < 6)) a.txt).length) ≤ 500000000 := by simpa [Tr.txt] using hl
  clear hown hP h hA hw hl HP
  have HP := HP0
  clear HP0
  show Calls Tryz.prog 50 _ w (App B x w (bs ++ (preT o ++ par (decide (a.str < 6)) a.txt)))
  have q1 := as_pl
  have q2 := as_pp
  go_enter Tryz.func50, Tryz.ntmps50
  go_upto_region 7 with fail
  have HO := Hid.mk (own_bel' HO.out (Below.refl _ _).drew)
  have HK := Hid.mk HK.out.drew
  have BX : Hid ((w.alloc (.cells #[.int .i64 o.k, .int .i64 o.v, .string ⟨o.n.toArray⟩, .iface T u] 106)).drew.heap[w.heap.size]? = some (.cells #[.int .i64 o.k, .int .i64 o.v, .string ⟨o.n.toArray⟩, .iface T u] 106)) := BX
  refine wp_region_held_drew (S := (fun w' => w'.cell? ⟨w.heap.size, 0, none⟩ = some (.int .i64 o.k) ∧ w'.cell? ⟨w.heap.size, 1, none⟩ = some (.int .i64 o.v) ∧ w'.cell? ⟨w.heap.size, 2, none⟩ = some (.string ⟨o.n.toArray⟩) ∧ w'.cell? ⟨w.heap.size, 3, none⟩ = some (.iface T u))) (by kernel_rfl) ?_ (fun hHeld => ?_)
  · exact ⟨(blk_cell BX.out 0).trans rfl, (blk_cell BX.out 1).trans rfl, (blk_cell BX.out 2).trans rfl, (blk_cell BX.out 3).trans rfl⟩
  refine wpAnyH_take (i := 0) (v := ?_) rfl (by kernel_rfl) (by kernel_rfl) (by kernel_rfl) (fun _ _ _ h => h) (Or.inl ⟨by rfl, ?_⟩) (by assumption) ?_
  rotate_left
  · intro w hSw; (try dsimp only at hSw); go_simp; (try with_reducible rfl)
  rotate_left
  simp only [Act.put, List.setIfInBounds_toArray, List.set_cons_zero, List.set_cons_succ, List.getElem_toArray, List.getElem_cons_zero, List.getElem_cons_succ]
  refine wpAnyH_take (i := 1) (v := ?_) rfl (by kernel_rfl) (by kernel_rfl) (by kernel_rfl) (fun _ _ _ h => h) (Or.inl ⟨by rfl, ?_⟩) (by assumption) ?_
  rotate_left
  · intro w hSw; (try dsimp only at hSw); go_simp; (try with_reducible rfl)
  rotate_left
  simp only [Act.put, List.setIfInBounds_toArray, List.set_cons_zero, List.set_cons_succ, List.getElem_toArray, List.getElem_cons_zero, List.getElem_cons_succ]
  refine wpAnyH_take (i := 2) (v := ?_) rfl (by kernel_rfl) (by kernel_rfl) (by kernel_rfl) (fun _ _ _ h => h) (Or.inl ⟨by rfl, ?_⟩) (by assumption) ?_
  rotate_left
  · intro w hSw; (try dsimp only at hSw); go_simp; (try with_reducible rfl)
  rotate_left
  simp only [Act.put, List.setIfInBounds_toArray, List.set_cons_zero, List.set_cons_succ, List.getElem_toArray, List.getElem_cons_zero, List.getElem_cons_succ]
  refine wpAnyH_take (i := 5) (v := ?_) rfl (by kernel_rfl) (by kernel_rfl) (by kernel_rfl) (fun _ _ _ h => h) (Or.inl ⟨by rfl, ?_⟩) (by assumption) ?_
  rotate_left
  · intro w hSw; (try dsimp only at hSw); go_simp; (try with_reducible rfl)
  rotate_left
  simp only [Act.put, List.setIfInBounds_toArray, List.set_cons_zero, List.set_cons_succ, List.getElem_toArray, List.getElem_cons_zero, List.getElem_cons_succ]
  refine wpAnyH_take (i := 6) (v := ?_) rfl (by kernel_rfl) (by kernel_rfl) (by kernel_rfl) (fun _ _ _ h => h) (Or.inl ⟨by rfl, ?_⟩) (by assumption) ?_
  rotate_left
  · intro w hSw; (try dsimp only at hSw); go_simp; (try with_reducible rfl)
  rotate_left
  simp only [Act.put, List.setIfInBounds_toArray, List.set_cons_zero, List.set_cons_succ, List.getElem_toArray, List.getElem_cons_zero, List.getElem_cons_succ]
  refine wpAnyH_ready (rs := [3]) (by kernel_rfl) (by simp) ?_
  refine AllReadyH.cons rfl (fun K hK => ?_) ?_
  · go_simp
    refine (preTextI o _ hk).mono ?_
    rintro e w1 ⟨rfl, hb1⟩
    have HO := Hid.mk (own_bel' HO.out hb1)
    have HK := Hid.mk (HK.out.trans (Kb.of hb1 hB1))
    have hB1 := Nat.le_trans hB HK.out.1.size
    have BX := Hid.mk (blk_below BX.out hb1)
    refine hK.out _ _ ?_ (fun hHeld => ?_)
    · exact ⟨(blk_cell BX.out 0).trans rfl, (blk_cell BX.out 1).trans rfl, (blk_cell BX.out 2).trans rfl, (blk_cell BX.out 3).trans rfl⟩
    clear hK K
    (try simp only [Act.put, List.setIfInBounds_toArray, List.set_cons_zero, List.set_cons_succ, List.getElem_toArray, List.getElem_cons_zero, List.getElem_cons_succ])
    refine wpAnyH_ready (rs := [4]) (by kernel_rfl) (by simp) ?_
    refine AllReadyH.cons rfl (fun K hK => ?_) ?_
    · rw [if_pos (by rfl)]
      refine wp_str _ _ rfl B _ bs rfl HO.out (preT o) rfl hB1 (by omega) ?_
      intro v2 w2 ho2 hk2
      have HO := Hid.mk ho2
      have HK := Hid.mk (HK.out.trans hk2)
      have hB1 := Nat.le_trans hB HK.out.1.size
      have BX := Hid.mk (hk2.blk BX.out (by decide))
      clear ho2
      refine hK.out _ _ ?_ (fun hHeld => ?_)
      · exact ⟨(blk_cell BX.out 0).trans rfl, (blk_cell BX.out 1).trans rfl, (blk_cell BX.out 2).trans rfl, (blk_cell BX.out 3).trans rfl⟩
      clear hK K
      (try simp only [Act.put, List.setIfInBounds_toArray, List.set_cons_zero, List.set_cons_succ, List.getElem_toArray, List.getElem_cons_zero, List.getElem_cons_succ])
      refine wpAnyH_ready (rs := [7]) (by kernel_rfl) (by simp) ?_
      refine AllReadyH.cons rfl (fun K hK => ?_) ?_
      · go_simp
        refine (appendOperandI a HA.out HW.out 6 B _ _ _ _ HO.out hB1 (HP.out.on HK.out.1) (HD.out.oth HK.out) (by simp only [List.length_append]; omega)).mono ?_
        rintro e w3 ⟨v3, rfl, ho3, hk3⟩
        have HO := Hid.mk ho3
        have HK := Hid.mk (HK.out.trans hk3)
        have BX := Hid.mk (hk3.blk BX.out (by decide))
        clear ho3
        refine hK.out _ _ ?_ (fun hHeld => ?_)
        · exact ⟨(blk_cell BX.out 0).trans rfl, (blk_cell BX.out 1).trans rfl, (blk_cell BX.out 2).trans rfl, (blk_cell BX.out 3).trans rfl⟩
        clear hK K
        (try simp only [Act.put, List.setIfInBounds_toArray, List.set_cons_zero, List.set_cons_succ, List.getElem_toArray, List.getElem_cons_zero, List.getElem_cons_succ])
        refine wpAnyH_take (i := 8) (v := ?_) rfl (by kernel_rfl) (by kernel_rfl) (by kernel_rfl) (fun _ _ _ h => h) (Or.inl ⟨by rfl, ?_⟩) (by assumption) ?_
        rotate_left
        · intro w hSw; (try dsimp only at hSw); go_simp; (try with_reducible rfl)
        rotate_left
        simp only [Act.put, List.setIfInBounds_toArray, List.set_cons_zero, List.set_cons_succ, List.getElem_toArray, List.getElem_cons_zero, List.getElem_cons_succ]
        refine wpAnyH_done (by kernel_rfl) ?_ _
        go_wp2
        go_ret
        exact ⟨v3, rfl, by have z := HO.out; simpa [List.append_assoc] using z, HK.out⟩
      exact AllReadyH.nil
    exact AllReadyH.nil
  exact AllReadyH.nil
theorem kb_new {B : Nat} {x v : Value} {a w : World} (h : Kb B x v a w) (o : Obj) : (w.alloc o).heap[w.heap.size]? = some o := blk_new w o
theorem own_ne {B : Nat} {w : World} {v : Value} {bs : List UInt8} (h : Own B w v bs) : v.ownBlock ≠ some w.heap.size := fun e => Nat.lt_irrefl _ (Own.lt h e)
set_option maxHeartbeats 6400000 in
set_option maxRecDepth 100000 in
theorem exprBin (o : Po) (a b : Tr) (h0 : 0 ≤ o.v) (h7 : o.v ≤ 7) (hA : AppOk a) (hA' : AppOk b) (hw : a.wf) (hw' : b.wf) : AppOk (.bin o a b) := by
  intro B w bs x nv hown hB hP hD hl
  obtain ⟨k, v, n⟩ := o
  simp only at h0 h7
  obtain ⟨m, rfl⟩ : ∃ m : Nat, v = (m : Int) := ⟨v.toNat, by omega⟩
  cases hD with
  | bin _ v v' _ _ h h' =>
  obtain ⟨T, u, rfl⟩ := h.form
  obtain ⟨T', u', rfl⟩ := h'.form
  have hm7 : m ≤ 7 := by omega
  clear h0 h7
  obtain ⟨TA, hTA⟩ : ∃ TA, TA = par (decide (a.str < lL (bstr (m : Int)))) a.txt := ⟨_, rfl⟩
  obtain ⟨TB, hTB⟩ : ∃ TB, TB = par (decide (b.str < bstr (m : Int) + 1)) b.txt := ⟨_, rfl⟩
  have et : (Tr.bin ⟨k, (m : Int), n⟩ a b).txt = TA ++ [32] ++ twAt (8 + m) ++ [32] ++ TB := by rw [hTA, hTB]; simp [Tr.txt]
  rw [et] at hl ⊢
  simp only [List.length_append, List.length_cons, List.length_nil] at hl
  clear et
  obtain ⟨W0, hW0⟩ : ∃ W0, W0 = w.alloc (.cells #[.int .i64 k, .int .i64 (m : Int), .string ⟨n.toArray⟩, .iface T u, .iface T' u'] 110) := ⟨_, rfl⟩
  have HO := Hid.mk (own_bel' hown (below_alloc' (Below.refl _ _) (.cells #[.int .i64 k, .int .i64 (m : Int), .string ⟨n.toArray⟩, .iface T u, .iface T' u'] 110)))
  have HK := Hid.mk ((Kb.refl B x w).alloc hB (.cells #[.int .i64 k, .int .i64 (m : Int), .string ⟨n.toArray⟩, .iface T u, .iface T' u'] 110))
  have BX := Hid.mk (blk_new w (.cells #[.int .i64 k, .int .i64 (m : Int), .string ⟨n.toArray⟩, .iface T u, .iface T' u'] 110))
  rw [← hW0] at HO HK BX
  have HW0 := Hid.mk hW0
  have HP := Hid.mk hP
  have HD := Hid.mk h
  have HD' := Hid.mk h'
  have HA := Hid.mk hA
  have HA' := Hid.mk hA'
  have HW := Hid.mk hw
  have HW' := Hid.mk hw'
  have HTA := Hid.mk hTA
  have HTB := Hid.mk hTB
  clear hown hP h h' hA hA' hw hw' hTA hTB hW0
  have q1 := as_bl
  have q2 := as_bp
  have q3 := as_bb
  go_enter Tryz.func50, Tryz.ntmps50
  go_upto_region 10 with fail
  rw [← HW0.out]
  clear HW0 q1 q2 q3
  go_cut [0] (fun s wx => Hid (Own B wx s (bs ++ TA ++ [32])) ∧ Hid (Kb B x s w wx) ∧ Hid (wx.heap[w.heap.size]? = some (.cells #[.int .i64 k, .int .i64 (m : Int), .string ⟨n.toArray⟩, .iface T u, .iface T' u'] 110)))
  case first =>
    have hB1 := Nat.le_trans hB HK.out.1.size
    have HO := Hid.mk (own_bel' HO.out (Below.refl _ _).drew)
    have HK := Hid.mk HK.out.drew
    have BX : Hid (W0.drew.heap[w.heap.size]? = some (.cells #[.int .i64 k, .int .i64 (m : Int), .string ⟨n.toArray⟩, .iface T u, .iface T' u'] 110)) := BX
    refine wp_region_held_drew (S := (fun w' => w'.cell? ⟨w.heap.size, 0, none⟩ = some (.int .i64 k) ∧ w'.cell? ⟨w.heap.size, 1, none⟩ = some (.int .i64 (m : Int)) ∧ w'.cell? ⟨w.heap.size, 2, none⟩ = some (.string ⟨n.toArray⟩) ∧ w'.cell? ⟨w.heap.size, 3, none⟩ = some (.iface T u) ∧ w'.cell? ⟨w.heap.size, 4, none⟩ = some (.iface T' u'))) (by kernel_rfl) ?_ (fun hHeld => ?_)
    · exact ⟨(blk_cell BX.out 0).trans rfl, (blk_cell BX.out 1).trans rfl, (blk_cell BX.out 2).trans rfl, (blk_cell BX.out 3).trans rfl, (blk_cell BX.out 4).trans rfl⟩
    refine wpAnyH_take (i := 0) (v := ?_) rfl (by kernel_rfl) (by kernel_rfl) (by kernel_rfl) (fun _ _ _ h => h) (Or.inl ⟨by rfl, ?_⟩) (by assumption) ?_
    rotate_left
    · intro w hSw; (try dsimp only at hSw); go_simp; (try with_reducible rfl)
    rotate_left
    simp only [Act.put, List.setIfInBounds_toArray, List.set_cons_zero, List.set_cons_succ, List.getElem_toArray, List.getElem_cons_zero, List.getElem_cons_succ]
    refine wpAnyH_take (i := 1) (v := ?_) rfl (by kernel_rfl) (by kernel_rfl) (by kernel_rfl) (fun _ _ _ h => h) (Or.inl ⟨by rfl, ?_⟩) (by assumption) ?_
    rotate_left
    · intro w hSw; (try dsimp only at hSw); go_simp; (try with_reducible rfl)
    rotate_left
    simp only [Act.put, List.setIfInBounds_toArray, List.set_cons_zero, List.set_cons_succ, List.getElem_toArray, List.getElem_cons_zero, List.getElem_cons_succ]
    refine wpAnyH_take (i := 2) (v := ?_) rfl (by kernel_rfl) (by kernel_rfl) (by kernel_rfl) (fun _ _ _ h => h) (Or.inl ⟨by rfl, ?_⟩) (by assumption) ?_
    rotate_left
    · intro w hSw; (try dsimp only at hSw); go_simp; (try with_reducible rfl)
    rotate_left
    simp only [Act.put, List.setIfInBounds_toArray, List.set_cons_zero, List.set_cons_succ, List.getElem_toArray, List.getElem_cons_zero, List.getElem_cons_succ]
    refine wpAnyH_take (i := 3) (v := ?_) rfl (by kernel_rfl) (by kernel_rfl) (by kernel_rfl) (fun _ _ _ h => h) (Or.inl ⟨by rfl, ?_⟩) (by assumption) ?_
    rotate_left
    · intro w hSw; (try dsimp only at hSw); go_simp; (try with_reducible rfl)
    rotate_left
    simp only [Act.put, List.setIfInBounds_toArray, List.set_cons_zero, List.set_cons_succ, List.getElem_toArray, List.getElem_cons_zero, List.getElem_cons_succ]
    refine wpAnyH_ready (rs := [4, 6]) (by kernel_rfl) (by simp) ?_
    refine AllReadyH.cons rfl (fun K hK => ?_) ?_
    · go_simp
      refine (leastLI k m ⟨n.toArray⟩ (.iface T u) (.iface T' u') _ (HP.out.on HK.out.1).t.now.b (by omega) (by omega)).mono ?_
      rintro e w1 ⟨rfl, hb1⟩
      (try have SB := Hid.mk (blk_below SB.out hb1))
      have HO := Hid.mk (own_bel' HO.out hb1)
      have HK := Hid.mk (HK.out.trans (Kb.of hb1 hB1))
      have hB1 := Nat.le_trans hB HK.out.1.size
      have BX := Hid.mk (blk_below BX.out hb1)
      clear hb1
      refine hK.out _ _ ?_ (fun hHeld => ?_)
      · exact ⟨(blk_cell BX.out 0).trans rfl, (blk_cell BX.out 1).trans rfl, (blk_cell BX.out 2).trans rfl, (blk_cell BX.out 3).trans rfl, (blk_cell BX.out 4).trans rfl⟩
      clear hK K
      (try simp only [Act.put, List.setIfInBounds_toArray, List.set_cons_zero, List.set_cons_succ, List.getElem_toArray, List.getElem_cons_zero, List.getElem_cons_succ])
      refine wpAnyH_ready (rs := [5, 6]) (by kernel_rfl) (by simp) ?_
      refine AllReadyH.cons rfl (fun K hK => ?_) ?_
      · go_simp
        refine (appendOperandI a HA.out HW.out _ B _ bs _ _ HO.out hB1 (HP.out.on HK.out.1) (HD.out.oth HK.out) (by rw [← HTA.out]; omega)).mono ?_
        rintro e w2 ⟨v2, rfl, ho2, hk2⟩
        rw [← HTA.out] at ho2
        (try have SB := Hid.mk (hk2.far SB.out SN.out))
        have HO := Hid.mk ho2
        have BX := Hid.mk (hk2.blk BX.out (by decide))
        have HK := Hid.mk (HK.out.trans hk2)
        have hB1 := Nat.le_trans hB HK.out.1.size
        clear ho2 hk2
        refine hK.out _ _ ?_ (fun hHeld => ?_)
        · exact ⟨(blk_cell BX.out 0).trans rfl, (blk_cell BX.out 1).trans rfl, (blk_cell BX.out 2).trans rfl, (blk_cell BX.out 3).trans rfl, (blk_cell BX.out 4).trans rfl⟩
        clear hK K
        (try simp only [Act.put, List.setIfInBounds_toArray, List.set_cons_zero, List.set_cons_succ, List.getElem_toArray, List.getElem_cons_zero, List.getElem_cons_succ])
        refine wpAnyH_ready (rs := [6]) (by kernel_rfl) (by simp) ?_
        refine AllReadyH.cons rfl (fun K hK => ?_) ?_
        · go_simp
          have SB := Hid.mk (kb_new HK.out (.cells #[.int .u8 32] 5))
          have SN := Hid.mk (own_ne HO.out)
          have HO := Hid.mk (own_bel' HO.out (below_alloc' (Below.refl _ _) (.cells #[.int .u8 32] 5)))
          have HK := Hid.mk (HK.out.alloc hB1 (.cells #[.int .u8 32] 5))
          have BX := Hid.mk (blk_alloc BX.out (.cells #[.int .u8 32] 5))
          have hB1 := Nat.le_trans hB HK.out.1.size
          refine hK.out _ _ ?_ (fun hHeld => ?_)
          · exact ⟨(blk_cell BX.out 0).trans rfl, (blk_cell BX.out 1).trans rfl, (blk_cell BX.out 2).trans rfl, (blk_cell BX.out 3).trans rfl, (blk_cell BX.out 4).trans rfl⟩
          clear hK K
          (try simp only [Act.put, List.setIfInBounds_toArray, List.set_cons_zero, List.set_cons_succ, List.getElem_toArray, List.getElem_cons_zero, List.getElem_cons_succ])
          refine wpAnyH_ready (rs := [7]) (by kernel_rfl) (by simp) ?_
          refine AllReadyH.cons rfl (fun K hK => ?_) ?_
          · rw [if_pos (by rfl)]
            refine wp_byte _ _ rfl B _ _ rfl HO.out _ _ rfl 32 (blk_cell SB.out 0) hB1 (by simp only [List.length_append]; omega) ?_
            intro v4 w4 ho4 hk4
            have BX := Hid.mk (hk4.blk BX.out (by decide))
            have HO := Hid.mk ho4
            have HK := Hid.mk (HK.out.trans hk4)
            clear ho4 hk4
            refine hK.out _ _ ?_ (fun hHeld => ?_)
            · exact ⟨(blk_cell BX.out 0).trans rfl, (blk_cell BX.out 1).trans rfl, (blk_cell BX.out 2).trans rfl, (blk_cell BX.out 3).trans rfl, (blk_cell BX.out 4).trans rfl⟩
            clear hK K
            (try simp only [Act.put, List.setIfInBounds_toArray, List.set_cons_zero, List.set_cons_succ, List.getElem_toArray, List.getElem_cons_zero, List.getElem_cons_succ])
            refine wpAnyH_take (i := 8) (v := ?_) rfl (by kernel_rfl) (by kernel_rfl) (by kernel_rfl) (fun _ _ _ h => h) (Or.inl ⟨by rfl, ?_⟩) (by assumption) ?_
            rotate_left
            · intro w hSw; (try dsimp only at hSw); go_simp; (try with_reducible rfl)
            rotate_left
            simp only [Act.put, List.setIfInBounds_toArray, List.set_cons_zero, List.set_cons_succ, List.getElem_toArray, List.getElem_cons_zero, List.getElem_cons_succ]
            refine wpAnyH_done (by kernel_rfl) ?_ _
            go_wp2_with fail
            go_meet
            exact ⟨HO, HK, BX⟩
          exact AllReadyH.nil
        exact AllReadyH.nil
      refine AllReadyH.cons rfl (fun K hK => ?_) ?_
      · go_simp
        have SB := Hid.mk (kb_new HK.out (.cells #[.int .u8 32] 5))
        have SN := Hid.mk (own_ne HO.out)
        have HO := Hid.mk (own_bel' HO.out (below_alloc' (Below.refl _ _) (.cells #[.int .u8 32] 5)))
        have HK := Hid.mk (HK.out.alloc hB1 (.cells #[.int .u8 32] 5))
        have BX := Hid.mk (blk_alloc BX.out (.cells #[.int .u8 32] 5))
        have hB1 := Nat.le_trans hB HK.out.1.size
        refine hK.out _ _ ?_ (fun hHeld => ?_)
        · exact ⟨(blk_cell BX.out 0).trans rfl, (blk_cell BX.out 1).trans rfl, (blk_cell BX.out 2).trans rfl, (blk_cell BX.out 3).trans rfl, (blk_cell BX.out 4).trans rfl⟩
        clear hK K
        (try simp only [Act.put, List.setIfInBounds_toArray, List.set_cons_zero, List.set_cons_succ, List.getElem_toArray, List.getElem_cons_zero, List.getElem_cons_succ])
        refine wpAnyH_ready (rs := [5]) (by kernel_rfl) (by simp) ?_
        refine AllReadyH.cons rfl (fun K hK => ?_) ?_
        · go_simp
          refine (appendOperandI a HA.out HW.out _ B _ bs _ _ HO.out hB1 (HP.out.on HK.out.1) (HD.out.oth HK.out) (by rw [← HTA.out]; omega)).mono ?_
          rintro e w2 ⟨v2, rfl, ho2, hk2⟩
          rw [← HTA.out] at ho2
          (try have SB := Hid.mk (hk2.far SB.out SN.out))
          have HO := Hid.mk ho2
          have BX := Hid.mk (hk2.blk BX.out (by decide))
          have HK := Hid.mk (HK.out.trans hk2)
          have hB1 := Nat.le_trans hB HK.out.1.size
          clear ho2 hk2
          refine hK.out _ _ ?_ (fun hHeld => ?_)
          · exact ⟨(blk_cell BX.out 0).trans rfl, (blk_cell BX.out 1).trans rfl, (blk_cell BX.out 2).trans rfl, (blk_cell BX.out 3).trans rfl, (blk_cell BX.out 4).trans rfl⟩
          clear hK K
          (try simp only [Act.put, List.setIfInBounds_toArray, List.set_cons_zero, List.set_cons_succ, List.getElem_toArray, List.getElem_cons_zero, List.getElem_cons_succ])
          refine wpAnyH_ready (rs := [7]) (by kernel_rfl) (by simp) ?_
          refine AllReadyH.cons rfl (fun K hK => ?_) ?_
          · rw [if_pos (by rfl)]
            refine wp_byte _ _ rfl B _ _ rfl HO.out _ _ rfl 32 (blk_cell SB.out 0) hB1 (by simp only [List.length_append]; omega) ?_
            intro v4 w4 ho4 hk4
            have BX := Hid.mk (hk4.blk BX.out (by decide))
            have HO := Hid.mk ho4
            have HK := Hid.mk (HK.out.trans hk4)
            clear ho4 hk4
            refine hK.out _ _ ?_ (fun hHeld => ?_)
            · exact ⟨(blk_cell BX.out 0).trans rfl, (blk_cell BX.out 1).trans rfl, (blk_cell BX.out 2).trans rfl, (blk_cell BX.out 3).trans rfl, (blk_cell BX.out 4).trans rfl⟩
            clear hK K
            (try simp only [Act.put, List.setIfInBounds_toArray, List.set_cons_zero, List.set_cons_succ, List.getElem_toArray, List.getElem_cons_zero, List.getElem_cons_succ])
            refine wpAnyH_take (i := 8) (v := ?_) rfl (by kernel_rfl) (by kernel_rfl) (by kernel_rfl) (fun _ _ _ h => h) (Or.inl ⟨by rfl, ?_⟩) (by assumption) ?_
            rotate_left
            · intro w hSw; (try dsimp only at hSw); go_simp; (try with_reducible rfl)
            rotate_left
            simp only [Act.put, List.setIfInBounds_toArray, List.set_cons_zero, List.set_cons_succ, List.getElem_toArray, List.getElem_cons_zero, List.getElem_cons_succ]
            refine wpAnyH_done (by kernel_rfl) ?_ _
            go_wp2_with fail
            go_meet
            exact ⟨HO, HK, BX⟩
          exact AllReadyH.nil
        exact AllReadyH.nil
      exact AllReadyH.nil
    refine AllReadyH.cons rfl (fun K hK => ?_) ?_
    · go_simp
      have SB := Hid.mk (kb_new HK.out (.cells #[.int .u8 32] 5))
      have SN := Hid.mk (own_ne HO.out)
      have HO := Hid.mk (own_bel' HO.out (below_alloc' (Below.refl _ _) (.cells #[.int .u8 32] 5)))
      have HK := Hid.mk (HK.out.alloc hB1 (.cells #[.int .u8 32] 5))
      have BX := Hid.mk (blk_alloc BX.out (.cells #[.int .u8 32] 5))
      have hB1 := Nat.le_trans hB HK.out.1.size
      refine hK.out _ _ ?_ (fun hHeld => ?_)
      · exact ⟨(blk_cell BX.out 0).trans rfl, (blk_cell BX.out 1).trans rfl, (blk_cell BX.out 2).trans rfl, (blk_cell BX.out 3).trans rfl, (blk_cell BX.out 4).trans rfl⟩
      clear hK K
      (try simp only [Act.put, List.setIfInBounds_toArray, List.set_cons_zero, List.set_cons_succ, List.getElem_toArray, List.getElem_cons_zero, List.getElem_cons_succ])
      refine wpAnyH_ready (rs := [4]) (by kernel_rfl) (by simp) ?_
      refine AllReadyH.cons rfl (fun K hK => ?_) ?_
      · go_simp
        refine (leastLI k m ⟨n.toArray⟩ (.iface T u) (.iface T' u') _ (HP.out.on HK.out.1).t.now.b (by omega) (by omega)).mono ?_
        rintro e w1 ⟨rfl, hb1⟩
        (try have SB := Hid.mk (blk_below SB.out hb1))
        have HO := Hid.mk (own_bel' HO.out hb1)
        have HK := Hid.mk (HK.out.trans (Kb.of hb1 hB1))
        have hB1 := Nat.le_trans hB HK.out.1.size
        have BX := Hid.mk (blk_below BX.out hb1)
        clear hb1
        refine hK.out _ _ ?_ (fun hHeld => ?_)
        · exact ⟨(blk_cell BX.out 0).trans rfl, (blk_cell BX.out 1).trans rfl, (blk_cell BX.out 2).trans rfl, (blk_cell BX.out 3).trans rfl, (blk_cell BX.out 4).trans rfl⟩
        clear hK K
        (try simp only [Act.put, List.setIfInBounds_toArray, List.set_cons_zero, List.set_cons_succ, List.getElem_toArray, List.getElem_cons_zero, List.getElem_cons_succ])
        refine wpAnyH_ready (rs := [5]) (by kernel_rfl) (by simp) ?_
        refine AllReadyH.cons rfl (fun K hK => ?_) ?_
        · go_simp
          refine (appendOperandI a HA.out HW.out _ B _ bs _ _ HO.out hB1 (HP.out.on HK.out.1) (HD.out.oth HK.out) (by rw [← HTA.out]; omega)).mono ?_
          rintro e w2 ⟨v2, rfl, ho2, hk2⟩
          rw [← HTA.out] at ho2
          (try have SB := Hid.mk (hk2.far SB.out SN.out))
          have HO := Hid.mk ho2
          have BX := Hid.mk (hk2.blk BX.out (by decide))
          have HK := Hid.mk (HK.out.trans hk2)
          have hB1 := Nat.le_trans hB HK.out.1.size
          clear ho2 hk2
          refine hK.out _ _ ?_ (fun hHeld => ?_)
          · exact ⟨(blk_cell BX.out 0).trans rfl, (blk_cell BX.out 1).trans rfl, (blk_cell BX.out 2).trans rfl, (blk_cell BX.out 3).trans rfl, (blk_cell BX.out 4).trans rfl⟩
          clear hK K
          (try simp only [Act.put, List.setIfInBounds_toArray, List.set_cons_zero, List.set_cons_succ, List.getElem_toArray, List.getElem_cons_zero, List.getElem_cons_succ])
          refine wpAnyH_ready (rs := [7]) (by kernel_rfl) (by simp) ?_
          refine AllReadyH.cons rfl (fun K hK => ?_) ?_
          · rw [if_pos (by rfl)]
            refine wp_byte _ _ rfl B _ _ rfl HO.out _ _ rfl 32 (blk_cell SB.out 0) hB1 (by simp only [List.length_append]; omega) ?_
            intro v4 w4 ho4 hk4
            have BX := Hid.mk (hk4.blk BX.out (by decide))
            have HO := Hid.mk ho4
            have HK := Hid.mk (HK.out.trans hk4)
            clear ho4 hk4
            refine hK.out _ _ ?_ (fun hHeld => ?_)
            · exact ⟨(blk_cell BX.out 0).trans rfl, (blk_cell BX.out 1).trans rfl, (blk_cell BX.out 2).trans rfl, (blk_cell BX.out 3).trans rfl, (blk_cell BX.out 4).trans rfl⟩
            clear hK K
            (try simp only [Act.put, List.setIfInBounds_toArray, List.set_cons_zero, List.set_cons_succ, List.getElem_toArray, List.getElem_cons_zero, List.getElem_cons_succ])
            refine wpAnyH_take (i := 8) (v := ?_) rfl (by kernel_rfl) (by kernel_rfl) (by kernel_rfl) (fun _ _ _ h => h) (Or.inl ⟨by rfl, ?_⟩) (by assumption) ?_
            rotate_left
            · intro w hSw; (try dsimp only at hSw); go_simp; (try with_reducible rfl)
            rotate_left
            simp only [Act.put, List.setIfInBounds_toArray, List.set_cons_zero, List.set_cons_succ, List.getElem_toArray, List.getElem_cons_zero, List.getElem_cons_succ]
            refine wpAnyH_done (by kernel_rfl) ?_ _
            go_wp2_with fail
            go_meet
            exact ⟨HO, HK, BX⟩
          exact AllReadyH.nil
        exact AllReadyH.nil
      exact AllReadyH.nil
    exact AllReadyH.nil
  case rest =>
    clear HO HK BX HA HD HW HTA
    obtain ⟨HO, HK, BX⟩ := hcut
    have hB1 := Nat.le_trans hB HK.out.1.size
    have hw : IntKind.i64.wrap (8 + (m : Int)) = ((8 + m : Nat) : Int) := by rw [IntKind.wrap_i64]; omega
    have htl := tw_len (8 + m)
    have ht := (HP.out.on HK.out.1).t.now.t (8 + m) (by omega)
    have y1 := blk_cell BX.out 1
    simp only [List.getElem?_toArray, List.getElem?_cons_zero, List.getElem?_cons_succ] at y1
    go_wp2_with (at_builtin; refine wpList_str rfl _ _ rfl B _ _ rfl HO.out (twAt (8 + m)) rfl hB1 (by simp only [List.length_append, List.length_cons, List.length_nil]; omega) ?_)
    intro v2 w2 ho2 hk2
    have HO2 := Hid.mk ho2
    have HK2 := Hid.mk (HK.out.trans hk2)
    have hB2 := Nat.le_trans hB HK2.out.1.size
    have BX2 := Hid.mk (hk2.blk BX.out (by decide))
    clear ho2 hk2 ht hw y1 HO HK BX
    refine Hid.out ?_
    refine Lib.hid ?_
    go_wp2_with (at_builtin; refine wpList_byte rfl _ _ rfl B _ _ rfl (own_bel' HO2.out (below_alloc' (Below.refl _ _) _)) _ _ rfl 32 (blk_cell (blk_new _ _) 0) (by simp; omega) (by simp only [List.length_append, List.length_cons, List.length_nil]; omega) ?_)
    intro v3 w3 ho3 hk3
    have HO3 := Hid.mk ho3
    have HK3 := Hid.mk ((HK2.out.alloc hB2 _).trans hk3)
    have hB3 := Nat.le_trans hB HK3.out.1.size
    have BX3 := Hid.mk (hk3.blk (blk_alloc BX2.out _) (by decide))
    clear ho3 hk3 HO2 HK2 BX2 hB1 hB2
    refine Hid.out ?_
    refine Lib.hid ?_
    go_upto_region 12 with fail
    have HO := Hid.mk (own_bel' HO3.out (Below.refl _ _).drew)
    have HK := Hid.mk HK3.out.drew
    have hB1 := hB3
    have BX : Hid (w3.drew.heap[w.heap.size]? = some (.cells #[.int .i64 k, .int .i64 (m : Int), .string ⟨n.toArray⟩, .iface T u, .iface T' u'] 110)) := BX3
    clear HO3 HK3 BX3
    refine wp_region_held_drew (S := (fun w' => w'.cell? ⟨w.heap.size, 0, none⟩ = some (.int .i64 k) ∧ w'.cell? ⟨w.heap.size, 1, none⟩ = some (.int .i64 (m : Int)) ∧ w'.cell? ⟨w.heap.size, 2, none⟩ = some (.string ⟨n.toArray⟩) ∧ w'.cell? ⟨w.heap.size, 3, none⟩ = some (.iface T u) ∧ w'.cell? ⟨w.heap.size, 4, none⟩ = some (.iface T' u'))) (by kernel_rfl) ?_ (fun hHeld => ?_)
    · exact ⟨(blk_cell BX.out 0).trans rfl, (blk_cell BX.out 1).trans rfl, (blk_cell BX.out 2).trans rfl, (blk_cell BX.out 3).trans rfl, (blk_cell BX.out 4).trans rfl⟩
    refine wpAnyH_take (i := 0) (v := ?_) rfl (by kernel_rfl) (by kernel_rfl) (by kernel_rfl) (fun _ _ _ h => h) (Or.inl ⟨by rfl, ?_⟩) (by assumption) ?_
    rotate_left
    · intro w hSw; (try dsimp only at hSw); go_simp; (try with_reducible rfl)
    rotate_left
    simp only [Act.put, List.setIfInBounds_toArray, List.set_cons_zero, List.set_cons_succ, List.getElem_toArray, List.getElem_cons_zero, List.getElem_cons_succ]
    refine wpAnyH_take (i := 1) (v := ?_) rfl (by kernel_rfl) (by kernel_rfl) (by kernel_rfl) (fun _ _ _ h => h) (Or.inl ⟨by rfl, ?_⟩) (by assumption) ?_
    rotate_left
    · intro w hSw; (try dsimp only at hSw); go_simp; (try with_reducible rfl)
    rotate_left
    simp only [Act.put, List.setIfInBounds_toArray, List.set_cons_zero, List.set_cons_succ, List.getElem_toArray, List.getElem_cons_zero, List.getElem_cons_succ]
    refine wpAnyH_take (i := 2) (v := ?_) rfl (by kernel_rfl) (by kernel_rfl) (by kernel_rfl) (fun _ _ _ h => h) (Or.inl ⟨by rfl, ?_⟩) (by assumption) ?_
    rotate_left
    · intro w hSw; (try dsimp only at hSw); go_simp; (try with_reducible rfl)
    rotate_left
    simp only [Act.put, List.setIfInBounds_toArray, List.set_cons_zero, List.set_cons_succ, List.getElem_toArray, List.getElem_cons_zero, List.getElem_cons_succ]
    refine wpAnyH_take (i := 3) (v := ?_) rfl (by kernel_rfl) (by kernel_rfl) (by kernel_rfl) (fun _ _ _ h => h) (Or.inl ⟨by rfl, ?_⟩) (by assumption) ?_
    rotate_left
    · intro w hSw; (try dsimp only at hSw); go_simp; (try with_reducible rfl)
    rotate_left
    simp only [Act.put, List.setIfInBounds_toArray, List.set_cons_zero, List.set_cons_succ, List.getElem_toArray, List.getElem_cons_zero, List.getElem_cons_succ]
    refine wpAnyH_ready (rs := [4]) (by kernel_rfl) (by simp) ?_
    refine AllReadyH.cons rfl (fun K hK => ?_) ?_
    · go_simp
      refine (leastRI k m ⟨n.toArray⟩ (.iface T u) (.iface T' u') _ (HP.out.on HK.out.1).t.now.b (by omega) (by omega)).mono ?_
      rintro e w1 ⟨rfl, hb1⟩
      have HO := Hid.mk (own_bel' HO.out hb1)
      have HK := Hid.mk (HK.out.trans (Kb.of hb1 hB1))
      have hB1 := Nat.le_trans hB HK.out.1.size
      have BX := Hid.mk (blk_below BX.out hb1)
      clear hb1
      refine hK.out _ _ ?_ (fun hHeld => ?_)
      · exact ⟨(blk_cell BX.out 0).trans rfl, (blk_cell BX.out 1).trans rfl, (blk_cell BX.out 2).trans rfl, (blk_cell BX.out 3).trans rfl, (blk_cell BX.out 4).trans rfl⟩
      clear hK K
      (try simp only [Act.put, List.setIfInBounds_toArray, List.set_cons_zero, List.set_cons_succ, List.getElem_toArray, List.getElem_cons_zero, List.getElem_cons_succ])
      refine wpAnyH_ready (rs := [5]) (by kernel_rfl) (by simp) ?_
      refine AllReadyH.cons rfl (fun K hK => ?_) ?_
      · go_simp
        refine (appendOperandI b HA'.out HW'.out _ B _ _ _ _ HO.out hB1 (HP.out.on HK.out.1) (HD'.out.oth HK.out) (by rw [← HTB.out]; simp only [List.length_append, List.length_cons, List.length_nil]; omega)).mono ?_
        rintro e w2 ⟨v2, rfl, ho2, hk2⟩
        rw [← HTB.out] at ho2
        have HO := Hid.mk ho2
        have BX := Hid.mk (hk2.blk BX.out (by decide))
        have HK := Hid.mk (HK.out.trans hk2)
        clear ho2 hk2
        refine hK.out _ _ ?_ (fun hHeld => ?_)
        · exact ⟨(blk_cell BX.out 0).trans rfl, (blk_cell BX.out 1).trans rfl, (blk_cell BX.out 2).trans rfl, (blk_cell BX.out 3).trans rfl, (blk_cell BX.out 4).trans rfl⟩
        clear hK K
        (try simp only [Act.put, List.setIfInBounds_toArray, List.set_cons_zero, List.set_cons_succ, List.getElem_toArray, List.getElem_cons_zero, List.getElem_cons_succ])
        refine wpAnyH_take (i := 6) (v := ?_) rfl (by kernel_rfl) (by kernel_rfl) (by kernel_rfl) (fun _ _ _ h => h) (Or.inl ⟨by rfl, ?_⟩) (by assumption) ?_
        rotate_left
        · intro w hSw; (try dsimp only at hSw); go_simp; (try with_reducible rfl)
        rotate_left
        simp only [Act.put, List.setIfInBounds_toArray, List.set_cons_zero, List.set_cons_succ, List.getElem_toArray, List.getElem_cons_zero, List.getElem_cons_succ]
        refine wpAnyH_done (by kernel_rfl) ?_ _
        go_wp2
        go_ret
        exact ⟨v2, rfl, by have z := HO.out; simpa [List.append_assoc] using z, HK.out⟩
      exact AllReadyH.nil
    exact AllReadyH.nil
/-- Every expression of valid Ops is printed. -/
theorem appOk (t : Tr) (hw : t.wf) (ho : t.ops) : AppOk t := by
  induction t with
  | leaf o => exact exprLeaf o ho hw.2
  | pre o a ih => exact exprPre o a hw.1 (ih hw.2 ho.2) hw.2
  | bin o a b ih ih' => exact exprBin o a b hw.1.2.1 hw.1.2.2 (ih hw.2.1 ho.2.1) (ih' hw.2.2 ho.2.2) hw.2.1 hw.2.2
  | two o a b ih ih' =>
    have i1 := ih hw.2.1 ho.2.1
    have i2 := ih' hw.2.2 ho.2.2
    have hv := hw.1
    intro B w bs x nv hown hB hP hD hl
    cases hD with
    | two _ g off c v u _ _ hr hk c1 c2 h h' =>
      have e : jn (fun i => if i = 0 then a else b) 2 = a.txt ++ [44, 32] ++ b.txt := by simp [jn]
      have key := exprCall o 2 (fun i => if i = 0 then a else b) (fun i => if i = 0 then v else u) g off c B w bs x (fun i hi => by by_cases e : i = 0 <;> simp [e, i1, i2]) (fun i hi => by by_cases e : i = 0 <;> simp [e, h, h']) hk (fun i hi => by
        have : i = 0 ∨ i = 1 := by omega
        rcases this with rfl | rfl <;> simp [c1, c2]) (by omega) (by omega) (by omega) hown hB hP (by rw [e]; simp only [Tr.txt, List.length_append, List.length_cons, List.length_nil] at hl ⊢; omega)
      rw [e] at key
      simpa [Tr.txt, List.append_assoc] using key
  | three o a b d ih ih' ih'' =>
    have i1 := ih hw.2.1 ho.2.1
    have i2 := ih' hw.2.2.1 ho.2.2.1
    have i3 := ih'' hw.2.2.2 ho.2.2.2
    have hv := hw.1
    intro B w bs x nv hown hB hP hD hl
    cases hD with
    | three _ g off c v u y _ _ _ hr hk c1 c2 c3 h h' h'' =>
      have e : jn (fun i => if i = 0 then a else if i = 1 then b else d) 3 = a.txt ++ [44, 32] ++ b.txt ++ [44, 32] ++ d.txt := by simp [jn]
      have key := exprCall o 3 (fun i => if i = 0 then a else if i = 1 then b else d) (fun i => if i = 0 then v else if i = 1 then u else y) g off c B w bs x (fun i hi => by by_cases e : i = 0 <;> by_cases e' : i = 1 <;> simp [e, e', i1, i2, i3]) (fun i hi => by by_cases e : i = 0 <;> by_cases e' : i = 1 <;> simp [e, e', h, h', h'']) hk (fun i hi => by
        have : i = 0 ∨ i = 1 ∨ i = 2 := by omega
        rcases this with rfl | rfl | rfl <;> simp [c1, c2, c3]) (by omega) (by omega) (by omega) hown hB hP (by rw [e]; simp only [Tr.txt, List.length_append, List.length_cons, List.length_nil] at hl ⊢; omega)
      rw [e] at key
      simpa [Tr.txt, List.append_assoc] using key
end Go.Proofs.YthobdaeglhdhnaaGreatDoor.Syn
