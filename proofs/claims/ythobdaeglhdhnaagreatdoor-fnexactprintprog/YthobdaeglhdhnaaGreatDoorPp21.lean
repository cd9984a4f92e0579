import Derived.Test.YthobdaeglhdhnaaGreatDoorPp19
import Derived.Deep.DrawnRows
import Derived.Deep.CutRange
import Derived.Deep.Cut
import Derived.Deep.DeepCutAuto
namespace Go.Proofs.YthobdaeglhdhnaaGreatDoor.Syn
open Go Go.RowKit Go.Proofs.YthobdaeglhdhnaaGreatDoor.Mem
open Go.Proofs.YthobdaeglhdhnaaGreatDoor.Print (Own infoB byteCells_one)
set_option linter.unusedVariables false
set_option linter.unusedSimpArgs false
attribute [local go_sem ↓] Go.wp_at_zero Go.wp_at_succ

/-- What the printing needs of memory below B. -/
structure Ps (B : Nat) (w : World) : Prop where
  t : TabsOn B w
  p : Lib.TabBelow Tryz.prog B w "internal/strconv.uint64pow10" .u64 Lib.pow10Tab
theorem Ps.on {B : Nat} {w w1 : World} (h : Ps B w) (hb : Below B w w1) : Ps B w1 := ⟨h.t.on hb, Lib.TabBelow.on h.p hb⟩
theorem tagB_nat {z : Int} (h0 : 0 ≤ z) (h1 : z ≤ 15) : ((tagB z).toNat : Int) = 97 + z := by
  unfold tagB
  rw [UInt8.toNat_ofNat']
  omega
theorem tagLetterI (z : Int) (w : World) (h0 : 0 ≤ z) (h1 : z ≤ 15) : Calls Tryz.prog 32 #[.int .i64 z] w fun e w' => e = .returned (.int .u8 ((tagB z).toNat : Int)) ∧ w' = w := by
  rw [tagB_nat h0 h1]
  go_enter Tryz.func32, Tryz.ntmps32
  go_wp2
  go_ret
  exact ⟨by first | rfl | (congr 2; done) | (congr 2; omega), rfl⟩
theorem preTextI (o : Po) (w : World) (hk : o.k = 7 ∨ o.k = 8) : Calls Tryz.prog 67 #[.agg #[.int .i64 o.k, .int .i64 o.v, .string ⟨o.n.toArray⟩]] w fun e w' => e = .returned (.string ⟨(preT o).toArray⟩) ∧ Below w.heap.size w w' := by
  obtain ⟨k, v, n⟩ := o
  simp only at hk
  rcases hk with rfl | rfl
  all_goals
    go_enter Tryz.func67, Tryz.ntmps67
    go_wp2
    go_ret
    exact ⟨rfl, by go_grown⟩
set_option maxHeartbeats 3200000 in
set_option maxRecDepth 100000 in
theorem appendLeafI (o : Po) (B : Nat) (bs : List UInt8) (x : Value) (w : World) (hop : opB o = true) (hk6 : o.k ≤ 6) (hown : Own B w x bs) (hB : B ≤ w.heap.size) (hP : Ps B w) (hl : bs.length ≤ 500000000) :
    Calls Tryz.prog 65 #[x, .agg #[.int .i64 o.k, .int .i64 o.v, .string ⟨o.n.toArray⟩]] w (App B x w (bs ++ leafT o)) := by
  obtain ⟨h1, h2, h3, h4⟩ := opB_ar hop
  have hnm : o.k = 2 → nameB o.n = true := fun e2 => by
    unfold opB at hop
    simp only [Bool.and_eq_true] at hop
    have := hop.2
    rwa [if_pos e2] at this
  obtain ⟨k, v, n⟩ := o
  simp only at h1 h2 h3 h4 hk6 hnm ⊢
  have hB1 : B ≤ (w.alloc (.cells #[.int .i64 k, .int .i64 v, .string ⟨n.toArray⟩] 91)).heap.size := by simp; omega
  have hk : k = 1 ∨ k = 2 ∨ k = 3 ∨ k = 4 ∨ k = 5 ∨ k = 6 := by omega
  clear hop
  rcases hk with e1 | e2 | e3 | e4 | e5 | e6
  · subst e1
    have HO := Hid.mk (own_bel' hown (below_alloc' (Below.refl _ _) (.cells #[.int .i64 1, .int .i64 v, .string ⟨n.toArray⟩] 91)))
    have HK := Hid.mk ((Kb.refl B x w).alloc hB (.cells #[.int .i64 1, .int .i64 v, .string ⟨n.toArray⟩] 91))
    have HP := Hid.mk (hP.on HK.out.1)
    clear hown hP
    have h4' : v ≤ 999999999 := by simpa [opMax] using h4
    clear h4 hnm
    go_enter Tryz.func65, Tryz.ntmps65
    go_wp2_with fail
    refine (appendIntI B v (by omega) (by omega) _ bs _ HO.out hB1 (by omega) HP.out.p).mono ?_
    rintro e w1 ⟨v1, rfl, ho, hk⟩
    have HO2 := Hid.mk (ho)
    have HK2 := Hid.mk (HK.out.trans hk)
    clear ho hk
    go_wp2
    go_ret
    exact ⟨v1, rfl, HO2.out, HK2.out⟩
  · subst e2
    have HO := Hid.mk (own_bel' hown (below_alloc' (Below.refl _ _) (.cells #[.int .i64 2, .int .i64 v, .string ⟨n.toArray⟩] 91)))
    have HK := Hid.mk ((Kb.refl B x w).alloc hB (.cells #[.int .i64 2, .int .i64 v, .string ⟨n.toArray⟩] 91))
    have HP := Hid.mk (hP.on HK.out.1)
    clear hown hP
    have hnl := name_len (hnm rfl)
    clear hnm
    go_enter Tryz.func65, Tryz.ntmps65
    go_wp2_with (at_builtin; refine wpList_str rfl _ _ rfl B _ bs rfl HO.out n rfl hB1 (by omega) ?_)
    intro v2 w2 ho2 hk2
    have HO2 := Hid.mk ho2
    have HK2 := Hid.mk (HK.out.trans hk2)
    clear ho2 hk2
    refine Hid.out ?_
    refine Lib.hid ?_
    go_wp2
    go_ret
    exact ⟨v2, rfl, HO2.out, HK2.out⟩
  · subst e3
    have HO := Hid.mk (own_bel' hown (below_alloc' (Below.refl _ _) (.cells #[.int .i64 3, .int .i64 v, .string ⟨n.toArray⟩] 91)))
    have HK := Hid.mk ((Kb.refl B x w).alloc hB (.cells #[.int .i64 3, .int .i64 v, .string ⟨n.toArray⟩] 91))
    have HP := Hid.mk (hP.on HK.out.1)
    clear hown hP
    have h4' : v ≤ 12 := by simpa [opMax] using h4
    clear h4 hnm
    obtain ⟨m, rfl⟩ : ∃ m : Nat, v = (m : Int) := ⟨v.toNat, by omega⟩
    have hw : IntKind.i64.wrap (30 + (m : Int)) = ((30 + m : Nat) : Int) := by rw [IntKind.wrap_i64]; omega
    have hc := HP.out.t.now.t (30 + m) (by omega)
    have htl := tw_len (30 + m)
    go_enter Tryz.func65, Tryz.ntmps65
    go_wp2_with (at_builtin; refine wpList_str rfl _ _ rfl B _ bs rfl HO.out (twAt (30 + m)) rfl hB1 (by omega) ?_)
    clear hc
    intro v2 w2 ho2 hk2
    have HO2 := Hid.mk ho2
    have HK2 := Hid.mk (HK.out.trans hk2)
    clear ho2 hk2
    refine Hid.out ?_
    refine Lib.hid ?_
    go_wp2
    go_ret
    exact ⟨v2, rfl, HO2.out, HK2.out⟩
  · subst e4
    have HO := Hid.mk (own_bel' hown (below_alloc' (Below.refl _ _) (.cells #[.int .i64 4, .int .i64 v, .string ⟨n.toArray⟩] 91)))
    have HK := Hid.mk ((Kb.refl B x w).alloc hB (.cells #[.int .i64 4, .int .i64 v, .string ⟨n.toArray⟩] 91))
    have HP := Hid.mk (hP.on HK.out.1)
    clear hown hP
    have h4' : v ≤ 15 := by simpa [opMax] using h4
    clear h4 hnm
    go_enter Tryz.func65, Tryz.ntmps65
    go_upto_region 7 with fail
    have hc0 := blk_cell (blk_new w (.cells #[.int .i64 4, .int .i64 v, .string ⟨n.toArray⟩] 91)) 1
    simp only [List.getElem?_toArray, List.getElem?_cons_zero, List.getElem?_cons_succ] at hc0
    have HO := Hid.mk (own_bel' HO.out (Below.refl _ _).drew)
    have HK := Hid.mk HK.out.drew
    refine wp_region_held_drew (S := (fun w' => w'.cell? ⟨w.heap.size, 1, none⟩ = some (.int .i64 v))) (by kernel_rfl) ?_ (fun hHeld => ?_)
    · exact hc0
    refine wpAnyH_take (i := 0) (v := ?_) rfl (by kernel_rfl) (by kernel_rfl) (by kernel_rfl) (fun _ _ _ h => h) (Or.inl ⟨by rfl, ?_⟩) (by assumption) ?_
    rotate_left
    · intro w hSw; (try dsimp only at hSw); go_simp; (try with_reducible rfl)
    rotate_left
    simp only [Act.put, List.setIfInBounds_toArray, List.set_cons_zero, List.set_cons_succ, List.getElem_toArray, List.getElem_cons_zero, List.getElem_cons_succ]
    refine wpAnyH_take (i := 2) (v := ?_) rfl (by kernel_rfl) (by kernel_rfl) (by kernel_rfl) (fun _ _ _ h => h) (Or.inl ⟨by rfl, ?_⟩) (by assumption) ?_
    rotate_left
    · intro w hSw; (try dsimp only at hSw); go_simp; (try with_reducible rfl)
    rotate_left
    simp only [Act.put, List.setIfInBounds_toArray, List.set_cons_zero, List.set_cons_succ, List.getElem_toArray, List.getElem_cons_zero, List.getElem_cons_succ]
    refine wpAnyH_take (i := 3) (v := ?_) rfl (by kernel_rfl) (by kernel_rfl) (by kernel_rfl) (fun _ _ _ h => h) (Or.inl ⟨by rfl, ?_⟩) (by assumption) ?_
    rotate_left
    · intro w hSw; (try dsimp only at hSw); go_simp; (try with_reducible rfl)
    rotate_left
    simp only [Act.put, List.setIfInBounds_toArray, List.set_cons_zero, List.set_cons_succ, List.getElem_toArray, List.getElem_cons_zero, List.getElem_cons_succ]
    refine wpAnyH_ready (rs := [1]) (by kernel_rfl) (by simp) ?_
    refine AllReadyH.cons rfl (fun K hK => ?_) ?_
    · rw [if_pos (by rfl)]
      refine wp_str _ _ rfl B _ bs rfl HO.out [104, 97, 115, 32] rfl hB1 (by simp; omega) ?_
      intro v2 w2 ho2 hk2
      have HO := Hid.mk ho2
      have HK := Hid.mk (HK.out.trans hk2)
      have hB1 := Nat.le_trans hB HK.out.1.size
      have hc2 := blk_cell (hk2.blk (blk_new w _) (by decide)) 1
      clear ho2
      refine hK.out _ _ ?_ (fun hHeld => ?_)
      · exact hc2
      clear hK K
      (try simp only [Act.put, List.setIfInBounds_toArray, List.set_cons_zero, List.set_cons_succ, List.getElem_toArray, List.getElem_cons_zero, List.getElem_cons_succ])
      refine wpAnyH_ready (rs := [4]) (by kernel_rfl) (by simp) ?_
      refine AllReadyH.cons rfl (fun K hK => ?_) ?_
      · go_simp
        refine (tagLetterI v _ (by omega) (by omega)).mono ?_
        rintro e w3 ⟨rfl, rfl⟩
        refine hK.out _ _ ?_ (fun hHeld => ?_)
        · exact hHeld
        clear hK K
        (try simp only [Act.put, List.setIfInBounds_toArray, List.set_cons_zero, List.set_cons_succ, List.getElem_toArray, List.getElem_cons_zero, List.getElem_cons_succ])
        refine wpAnyH_ready (rs := [5]) (by kernel_rfl) (by simp) ?_
        refine AllReadyH.cons rfl (fun K hK => ?_) ?_
        · go_simp
          refine hK.out _ _ ?_ (fun hHeld => ?_)
          · exact cell_alloc' hHeld _
          clear hK K
          (try simp only [Act.put, List.setIfInBounds_toArray, List.set_cons_zero, List.set_cons_succ, List.getElem_toArray, List.getElem_cons_zero, List.getElem_cons_succ])
          refine wpAnyH_ready (rs := [6]) (by kernel_rfl) (by simp) ?_
          refine AllReadyH.cons rfl (fun K hK => ?_) ?_
          · rw [if_pos (by rfl)]
            refine wp_byte _ _ rfl B _ _ rfl (own_bel' HO.out (below_alloc' (Below.refl _ _) _)) _ _ rfl (tagB v) (blk_cell (blk_new _ _) 0) (by simp; omega) (by simp; omega) ?_
            intro v4 w4 ho4 hk4
            have HO := Hid.mk ho4
            have HK := Hid.mk ((HK.out.alloc hB1 _).trans hk4)
            clear ho4
            refine hK.out _ _ ?_ (fun hHeld => ?_)
            · (have hc4 := blk_cell (hk4.blk (blk_alloc (hk2.blk (blk_new w _) (by decide)) _) (by decide)) 1; exact hc4)
            clear hK K
            (try simp only [Act.put, List.setIfInBounds_toArray, List.set_cons_zero, List.set_cons_succ, List.getElem_toArray, List.getElem_cons_zero, List.getElem_cons_succ])
            refine wpAnyH_take (i := 7) (v := ?_) rfl (by kernel_rfl) (by kernel_rfl) (by kernel_rfl) (fun _ _ _ h => h) (Or.inl ⟨by rfl, ?_⟩) (by assumption) ?_
            rotate_left
            · intro w hSw; (try dsimp only at hSw); go_simp; (try with_reducible rfl)
            rotate_left
            simp only [Act.put, List.setIfInBounds_toArray, List.set_cons_zero, List.set_cons_succ, List.getElem_toArray, List.getElem_cons_zero, List.getElem_cons_succ]
            refine wpAnyH_done (by kernel_rfl) ?_ _
            go_wp2
            go_ret
            exact ⟨v4, rfl, by have z := HO.out; rw [List.append_assoc] at z; exact z, HK.out⟩
          exact AllReadyH.nil
        exact AllReadyH.nil
      exact AllReadyH.nil
    exact AllReadyH.nil
  · subst e5
    have HO := Hid.mk (own_bel' hown (below_alloc' (Below.refl _ _) (.cells #[.int .i64 5, .int .i64 v, .string ⟨n.toArray⟩] 91)))
    have HK := Hid.mk ((Kb.refl B x w).alloc hB (.cells #[.int .i64 5, .int .i64 v, .string ⟨n.toArray⟩] 91))
    have HP := Hid.mk (hP.on HK.out.1)
    clear hown hP
    have h4' : v ≤ 15 := by simpa [opMax] using h4
    clear h4 hnm
    go_enter Tryz.func65, Tryz.ntmps65
    go_upto_region 9 with fail
    have hc0 := blk_cell (blk_new w (.cells #[.int .i64 5, .int .i64 v, .string ⟨n.toArray⟩] 91)) 1
    simp only [List.getElem?_toArray, List.getElem?_cons_zero, List.getElem?_cons_succ] at hc0
    have HO := Hid.mk (own_bel' HO.out (Below.refl _ _).drew)
    have HK := Hid.mk HK.out.drew
    refine wp_region_held_drew (S := (fun w' => w'.cell? ⟨w.heap.size, 1, none⟩ = some (.int .i64 v))) (by kernel_rfl) ?_ (fun hHeld => ?_)
    · exact hc0
    refine wpAnyH_take (i := 0) (v := ?_) rfl (by kernel_rfl) (by kernel_rfl) (by kernel_rfl) (fun _ _ _ h => h) (Or.inl ⟨by rfl, ?_⟩) (by assumption) ?_
    rotate_left
    · intro w hSw; (try dsimp only at hSw); go_simp; (try with_reducible rfl)
    rotate_left
    simp only [Act.put, List.setIfInBounds_toArray, List.set_cons_zero, List.set_cons_succ, List.getElem_toArray, List.getElem_cons_zero, List.getElem_cons_succ]
    refine wpAnyH_take (i := 2) (v := ?_) rfl (by kernel_rfl) (by kernel_rfl) (by kernel_rfl) (fun _ _ _ h => h) (Or.inl ⟨by rfl, ?_⟩) (by assumption) ?_
    rotate_left
    · intro w hSw; (try dsimp only at hSw); go_simp; (try with_reducible rfl)
    rotate_left
    simp only [Act.put, List.setIfInBounds_toArray, List.set_cons_zero, List.set_cons_succ, List.getElem_toArray, List.getElem_cons_zero, List.getElem_cons_succ]
    refine wpAnyH_take (i := 3) (v := ?_) rfl (by kernel_rfl) (by kernel_rfl) (by kernel_rfl) (fun _ _ _ h => h) (Or.inl ⟨by rfl, ?_⟩) (by assumption) ?_
    rotate_left
    · intro w hSw; (try dsimp only at hSw); go_simp; (try with_reducible rfl)
    rotate_left
    simp only [Act.put, List.setIfInBounds_toArray, List.set_cons_zero, List.set_cons_succ, List.getElem_toArray, List.getElem_cons_zero, List.getElem_cons_succ]
    refine wpAnyH_ready (rs := [1]) (by kernel_rfl) (by simp) ?_
    refine AllReadyH.cons rfl (fun K hK => ?_) ?_
    · rw [if_pos (by rfl)]
      refine wp_str _ _ rfl B _ bs rfl HO.out [115, 107, 105, 108, 108, 32] rfl hB1 (by simp; omega) ?_
      intro v2 w2 ho2 hk2
      have HO := Hid.mk ho2
      have HK := Hid.mk (HK.out.trans hk2)
      have hB1 := Nat.le_trans hB HK.out.1.size
      have hc2 := blk_cell (hk2.blk (blk_new w _) (by decide)) 1
      clear ho2
      refine hK.out _ _ ?_ (fun hHeld => ?_)
      · exact hc2
      clear hK K
      (try simp only [Act.put, List.setIfInBounds_toArray, List.set_cons_zero, List.set_cons_succ, List.getElem_toArray, List.getElem_cons_zero, List.getElem_cons_succ])
      refine wpAnyH_ready (rs := [4]) (by kernel_rfl) (by simp) ?_
      refine AllReadyH.cons rfl (fun K hK => ?_) ?_
      · go_simp
        refine (tagLetterI v _ (by omega) (by omega)).mono ?_
        rintro e w3 ⟨rfl, rfl⟩
        refine hK.out _ _ ?_ (fun hHeld => ?_)
        · exact hHeld
        clear hK K
        (try simp only [Act.put, List.setIfInBounds_toArray, List.set_cons_zero, List.set_cons_succ, List.getElem_toArray, List.getElem_cons_zero, List.getElem_cons_succ])
        refine wpAnyH_ready (rs := [5]) (by kernel_rfl) (by simp) ?_
        refine AllReadyH.cons rfl (fun K hK => ?_) ?_
        · go_simp
          refine hK.out _ _ ?_ (fun hHeld => ?_)
          · exact cell_alloc' hHeld _
          clear hK K
          (try simp only [Act.put, List.setIfInBounds_toArray, List.set_cons_zero, List.set_cons_succ, List.getElem_toArray, List.getElem_cons_zero, List.getElem_cons_succ])
          refine wpAnyH_ready (rs := [6]) (by kernel_rfl) (by simp) ?_
          refine AllReadyH.cons rfl (fun K hK => ?_) ?_
          · rw [if_pos (by rfl)]
            refine wp_byte _ _ rfl B _ _ rfl (own_bel' HO.out (below_alloc' (Below.refl _ _) _)) _ _ rfl (tagB v) (blk_cell (blk_new _ _) 0) (by simp; omega) (by simp; omega) ?_
            intro v4 w4 ho4 hk4
            have HO := Hid.mk ho4
            have HK := Hid.mk ((HK.out.alloc hB1 _).trans hk4)
            clear ho4
            refine hK.out _ _ ?_ (fun hHeld => ?_)
            · (have hc4 := blk_cell (hk4.blk (blk_alloc (hk2.blk (blk_new w _) (by decide)) _) (by decide)) 1; exact hc4)
            clear hK K
            (try simp only [Act.put, List.setIfInBounds_toArray, List.set_cons_zero, List.set_cons_succ, List.getElem_toArray, List.getElem_cons_zero, List.getElem_cons_succ])
            refine wpAnyH_take (i := 7) (v := ?_) rfl (by kernel_rfl) (by kernel_rfl) (by kernel_rfl) (fun _ _ _ h => h) (Or.inl ⟨by rfl, ?_⟩) (by assumption) ?_
            rotate_left
            · intro w hSw; (try dsimp only at hSw); go_simp; (try with_reducible rfl)
            rotate_left
            simp only [Act.put, List.setIfInBounds_toArray, List.set_cons_zero, List.set_cons_succ, List.getElem_toArray, List.getElem_cons_zero, List.getElem_cons_succ]
            refine wpAnyH_done (by kernel_rfl) ?_ _
            go_wp2
            go_ret
            exact ⟨v4, rfl, by have z := HO.out; rw [List.append_assoc] at z; exact z, HK.out⟩
          exact AllReadyH.nil
        exact AllReadyH.nil
      exact AllReadyH.nil
    exact AllReadyH.nil
  · subst e6
    have HO := Hid.mk (own_bel' hown (below_alloc' (Below.refl _ _) (.cells #[.int .i64 6, .int .i64 v, .string ⟨n.toArray⟩] 91)))
    have HK := Hid.mk ((Kb.refl B x w).alloc hB (.cells #[.int .i64 6, .int .i64 v, .string ⟨n.toArray⟩] 91))
    have HP := Hid.mk (hP.on HK.out.1)
    clear hown hP
    have h4' : v ≤ 1 := by simpa [opMax] using h4
    clear h4 hnm
    obtain ⟨m, rfl⟩ : ∃ m : Nat, v = (m : Int) := ⟨v.toNat, by omega⟩
    have hw : IntKind.i64.wrap (28 + (m : Int)) = ((28 + m : Nat) : Int) := by rw [IntKind.wrap_i64]; omega
    have hc := HP.out.t.now.t (28 + m) (by omega)
    have htl := tw_len (28 + m)
    go_enter Tryz.func65, Tryz.ntmps65
    go_wp2_with (at_builtin; refine wpList_str rfl _ _ rfl B _ bs rfl HO.out (twAt (28 + m)) rfl hB1 (by omega) ?_)
    clear hc
    intro v2 w2 ho2 hk2
    have HO2 := Hid.mk ho2
    have HK2 := Hid.mk (HK.out.trans hk2)
    clear ho2 hk2
    refine Hid.out ?_
    refine Lib.hid ?_
    go_wp2
    go_ret
    exact ⟨v2, rfl, HO2.out, HK2.out⟩
end Go.Proofs.YthobdaeglhdhnaaGreatDoor.Syn
