import Derived.Test.YtefkdpppcjlflaaGreatDoorIt43
namespace Go.Proofs.YtefkdpppcjlflaaGreatDoor.Print
open Go Go.RowKit Go.Proofs.YtefkdpppcjlflaaGreatDoor.Mem Go.Proofs.YtefkdpppcjlflaaGreatDoor.Valid
set_option linter.unusedVariables false
set_option linter.unusedSimpArgs false
attribute [local go_sem ↓] Go.wp_at_zero Go.wp_at_succ

theorem Kp.drew {B : Nat} {a w : World} (h : Kp B a w) : Kp B a w.drew := ⟨h.1.drew, h.2.drew⟩
theorem Own.drew {B : Nat} {w : World} {v : Value} {bs : List UInt8} (h : Own B w v bs) : Own B w.drew v bs := h
theorem Tab.drew {B : Nat} {w : World} (h : Tab B w) : Tab B w.drew := h.on (Below.refl _ _).drew
theorem nums_one {z : Int} (h : -1000000000 ≤ z ∧ z ≤ 1000000000) : (nums [z] 1).length ≤ 41 := nums_len (zs := [z]) (by intro x hx; simp only [List.mem_singleton] at hx; subst hx; exact h) 1 (by simp)
theorem nums_five {x y o c h : Int} (hp : PB x y o c h) : (nums [x, y, o, c, h] 5).length ≤ 205 := nums_len (zs := [x, y, o, c, h]) (by intro z hz; have h0 := hp.x; have h1 := hp.y; have h2 := hp.o; have h3 := hp.c; have h4 := hp.h; simp only [List.mem_cons, List.not_mem_nil, or_false] at hz; rcases hz with rfl | rfl | rfl | rfl | rfl <;> assumption) 5 (by simp)

set_option maxHeartbeats 12800000 in
set_option maxRecDepth 100000 in
theorem printI (a1 a2 a3 : Option Addr) (c1 c2 c3 : Nat) (I : In) (w : World) (h : InAt w a1 a2 a3 I) (h1 : I.nV ≤ 1048576) (h2 : I.nQ ≤ 1048576) (h3 : I.nR ≤ 1048576) (hT : Tab w.heap.size w) :
    Calls Tryz.prog 6 #[.agg #[.slice a1 I.nV c1, .slice a2 I.nQ c2, .slice a3 I.nR c3]] w fun e w' => ∃ v, e = .returned v ∧ Own w.heap.size w' v (answer I) ∧ Below w.heap.size w w' := by
  have H := Hid.mk h
  have HT := Hid.mk hT
  clear h hT
  obtain ⟨i0, hi, hz0, hz1, hz2⟩ := info_parts infoB
  cases hv : validB I with
  | false =>
    have HA : Hid (answer I = []) := by unfold Hid answer; rw [if_neg (by rw [hv]; exact Bool.false_ne_true)]
    go_enter Tryz.func6, Tryz.ntmps6
    go_wp2_with (go_at_call 18; refine (validI a1 a2 a3 c1 c2 c3 I _ (H.out.below (below_alloc' ((Below.refl _ _).alloc (Nat.le_refl _) _) _)) h1 h2 h3).mono ?_; rintro e w1 ⟨rfl, hb1⟩)
    go_ret
    exact ⟨_, rfl, by rw [HA.out]; exact Joins.ownsRow_le (Own.below (own_empty1 w _) hb1) (Nat.le_succ _), below_then (below_alloc' ((Below.refl _ _).alloc (Nat.le_refl _) _) _) hb1⟩
  | true =>
    have HA : Hid (answer I = text I) := by unfold Hid answer; rw [if_pos hv]
    have G := Hid.mk (good hv)
    have n1 := G.out.nV
    have n2 := G.out.nQ
    have n3 := G.out.nR
    go_enter Tryz.func6, Tryz.ntmps6
    go_wp2_with (go_at_call 18; refine (validI a1 a2 a3 c1 c2 c3 I _ (H.out.below (below_alloc' ((Below.refl _ _).alloc (Nat.le_refl _) _) _)) h1 h2 h3).mono ?_; rintro e w1 ⟨rfl, hb1⟩; refine Hid.out ?_)
    refine Lib.hid ?_
    have hx := Hid.mk (blk_below (blk_alloc (blk_new w _) _) hb1)
    have ho := Hid.mk (Own.below (own_empty1 w _) hb1)
    have hb := Hid.mk (below_then (w := w) (below_alloc' ((Below.refl _ _).alloc (Nat.le_refl _) _) _) hb1)
    clear hb1 hv
    have x0 := blk_cell hx.out 0
    simp only [List.getElem?_toArray, List.getElem?_cons_zero] at x0
    go_wp2
    clear x0
    go_loopw [3, 18] (fun v i wr => ∃ k : Nat, k ≤ I.nV ∧ i = .int .i64 k ∧ Hid (Own (w.heap.size + 1) wr v (rowsV I k)) ∧ Hid (Below w.heap.size w wr) ∧ Hid (wr.heap[w.heap.size]? = some (.cells #[.slice a1 I.nV c1, .slice a2 I.nQ c2, .slice a3 I.nR c3] 27))) (fun _ i _ => I.nV - (intOf i).toNat)
    case atStart => exact ⟨0, Nat.zero_le _, rfl, ho, hb, hx⟩
    case round =>
      clear hb hx ho
      obtain ⟨k, hk, rfl, ho, hb, hx⟩ := hrel
      have hl := rowsV_len G.out hk
      have hwz := blk_lt hx.out
      by_cases hlt : k < I.nV
      · rcases H.out.v with hs | ⟨b, off, rfl, hs⟩
        · omega
        obtain ⟨e0, e1, e2, e3, e4, e5, e6⟩ := Veh.at (rangeAt_below (hs k hlt) hb.out)
        clear hs
        have VBk := Hid.mk (G.out.v k hlt)
        have hb0 := VBk.out.a
        have hb1' := VBk.out.b
        have HTr := Hid.mk (HT.out.up hb.out (Nat.le_succ w.heap.size))
        have hnl := nums_one VBk.out.a
        go_upto_region 7 with fail
        go_cut [3] from 19 to 38 (fun s3 wx => Hid (Own (w.heap.size + 1) wx s3 ((rowsV I k ++ [118, 101, 104, 105, 99, 108, 101]) ++ nums [(I.V k).a] 1)) ∧ Hid (Kp (w.heap.size + 1) wr wx) ∧ Hid (wx.heap[wr.heap.size]? = some (.cells #[.int .i64 (I.V k).a, .int .i64 (I.V k).b, .int .i64 (I.V k).x, .int .i64 (I.V k).y, .int .i64 (I.V k).o, .int .i64 (I.V k).c, .int .i64 (I.V k).h] 45)))
        case first =>
          clear e0 e1 e2 e3 e4 e5 e6
          refine wp_region_held_drew (S := (fun w' => w'.cell? ⟨wr.heap.size, 0, none⟩ = some (.int .i64 (I.V k).a))) (by kernel_rfl) ?_ (fun hHeld => ?_)
          · go_keep
          refine wpAnyH_take (i := 0) (v := ?_) rfl (by kernel_rfl) (by kernel_rfl) (by kernel_rfl) (fun _ _ _ h => h) (Or.inl ⟨by rfl, ?_⟩) (by assumption) ?_
          rotate_left
          · intro w hSw; (try dsimp only at hSw); go_simp; (try with_reducible rfl)
          rotate_left
          simp only [Act.put, List.setIfInBounds_toArray, List.set_cons_zero, List.set_cons_succ]
          refine wpAnyH_take (i := 2) (v := ?_) rfl (by kernel_rfl) (by kernel_rfl) (by kernel_rfl) (fun _ _ _ h => h) (Or.inl ⟨by rfl, ?_⟩) (by assumption) ?_
          rotate_left
          · intro w hSw; (try dsimp only at hSw); go_simp; (try with_reducible rfl)
          rotate_left
          simp only [Act.put, List.setIfInBounds_toArray, List.set_cons_zero, List.set_cons_succ]
          refine wpAnyH_take (i := 3) (v := ?_) rfl (by kernel_rfl) (by kernel_rfl) (by kernel_rfl) (fun _ _ _ h => h) (Or.inl ⟨by rfl, ?_⟩) (by assumption) ?_
          rotate_left
          · intro w hSw; (try dsimp only at hSw); go_simp; (try with_reducible rfl)
          rotate_left
          simp only [Act.put, List.setIfInBounds_toArray, List.set_cons_zero, List.set_cons_succ]
          refine wpAnyH_ready (rs := [1, 4]) (by kernel_rfl) (by simp) ?_
          refine AllReadyH.cons rfl (fun K hK => ?_) ?_
          · rw [if_pos (by rfl)]
            refine wp_append_str _ _ 22 9 rfl (w.heap.size + 1) 5 i0 Tryz.underlying22 Tryz.underlying9 hi hz0 hz1 hz2 _ _ _ rfl (Own.below ho.out (by repeat (first | with_reducible exact Below.refl _ _ | with_reducible refine below_alloc' ?_ _ | with_reducible refine Lib.below_freeze ?_ (by dsimp only; omega) _ | with_reducible refine Below.drew ?_ | with_reducible refine below_then ?_ (by assumption)))) _ rfl (by show _ + 7 ≤ _; unfold maxLen; omega) (by show _ + 7 ≤ _; omega) (by (try simp only [size_drew, World.size_alloc]); omega) ?_
            intro v2 w2 hown2 hgrow2
            have ho2 : Hid (Own (w.heap.size + 1) w2 v2 (rowsV I k ++ [118, 101, 104, 105, 99, 108, 101])) := own_app (cs := [118, 101, 104, 105, 99, 108, 101]) (n := 7) rfl hown2
            have hkp := Hid.mk ((Kp.refl (w.heap.size + 1) _).grown (Own.below ho.out (by repeat (first | with_reducible exact Below.refl _ _ | with_reducible refine below_alloc' ?_ _ | with_reducible refine Lib.below_freeze ?_ (by dsimp only; omega) _ | with_reducible refine Below.drew ?_ | with_reducible refine below_then ?_ (by assumption)))) hgrow2 (by (try simp only [size_drew, World.size_alloc]); omega))
            have hk2 : Hid (Kp (w.heap.size + 1) wr w2) := (Kp.grown (by repeat (first | with_reducible exact Kp.refl _ _ | with_reducible refine Kp.alloc ?_ (by (try simp only [size_drew, World.size_alloc]); omega) _ | with_reducible refine Kp.drew ?_)) (Own.below ho.out (by repeat (first | with_reducible exact Below.refl _ _ | with_reducible refine below_alloc' ?_ _ | with_reducible refine Lib.below_freeze ?_ (by dsimp only; omega) _ | with_reducible refine Below.drew ?_ | with_reducible refine below_then ?_ (by assumption)))) hgrow2 (by (try simp only [size_drew, World.size_alloc]); omega))
            have hbx2 := Kp.blk hkp.out (cs := #[.int .i64 (I.V k).a, .int .i64 (I.V k).b, .int .i64 (I.V k).x, .int .i64 (I.V k).y, .int .i64 (I.V k).o, .int .i64 (I.V k).c, .int .i64 (I.V k).h]) (t := 45) (fr := (0, 0)) (g := wr.heap.size) (by repeat (first | with_reducible exact blk_new _ _ | with_reducible refine blk_alloc ?_ _ | with_reducible refine blk_drew ?_)) (by decide)
            have hs2 := hk2.out.1.size
            clear hown2 hgrow2
            refine hK.out _ _ ?_ (fun hHeld => ?_)
            · (try dsimp only); first | (go_keep; done) | ((repeat' constructor) <;> first | exact (blk_cell hbx3 _).trans rfl | exact (blk_cell hbx2 _).trans rfl)
            clear hK K
            (try simp only [Act.put, List.setIfInBounds_toArray, List.set_cons_zero, List.set_cons_succ])
            refine wpAnyH_ready (rs := [4]) (by kernel_rfl) (by simp) ?_
            refine AllReadyH.cons rfl (fun K hK => ?_) ?_
            · go_simp
              refine hK.out _ _ ?_ (fun hHeld => ?_)
              · (try dsimp only); first | (go_keep; done) | ((repeat' constructor) <;> first | exact (blk_cell hbx3 _).trans rfl | exact (blk_cell hbx2 _).trans rfl)
              clear hK K
              (try simp only [Act.put, List.setIfInBounds_toArray, List.set_cons_zero, List.set_cons_succ])
              refine wpAnyH_ready (rs := [5]) (by kernel_rfl) (by simp) ?_
              refine AllReadyH.cons rfl (fun K hK => ?_) ?_
              · go_simp
                refine (numbersI (w.heap.size + 1) (rowsV I k ++ [118, 101, 104, 105, 99, 108, 101]) [(I.V k).a] _ _ _ 1 rfl (by first | exact ho2.out.alloc _ | exact ho2.out) (by (try simp only [size_drew, World.size_alloc]); omega) (HTr.out.on (by first | exact (hk2.out.alloc (by omega) _).1 | exact hk2.out.1)) (by first | exact blk_new _ _ | exact Kp.blk hkp.out (blk_drew (blk_new1 _ _ _)) (by decide) | exact Kp.blk hkp.out (blk_new1 _ _ _) (by decide)) (by intro z hz; simp only [List.mem_singleton] at hz; subst hz; exact VBk.out.a) (by simp) (by simp only [List.length_append, List.length_cons, List.length_nil]; omega)).mono ?_
                rintro e w3 ⟨v3, rfl, ho3, hk3⟩
                have hbx3 := Kp.blk hk3 (by first | exact hbx2 | exact blk_alloc hbx2 _) (by decide)
                have hk4 : Hid (Kp (w.heap.size + 1) wr w3) := by first | exact (hk2.out.alloc (by omega) _).trans hk3 | exact hk2.out.trans hk3
                have ho4 := Hid.mk ho3
                clear ho3 hk3
                go_wp2_with fail
                refine hK.out _ _ ?_ (fun hHeld => ?_)
                · (try dsimp only); first | (go_keep; done) | ((repeat' constructor) <;> first | exact (blk_cell hbx3 _).trans rfl | exact (blk_cell hbx2 _).trans rfl)
                clear hK K
                (try simp only [Act.put, List.setIfInBounds_toArray, List.set_cons_zero, List.set_cons_succ])
                refine wpAnyH_ready (rs := [6]) (by kernel_rfl) (by simp) ?_
                refine AllReadyH.cons rfl (fun K hK => ?_) ?_
                · go_simp
                  refine hK.out _ _ ?_ (fun hHeld => ?_)
                  · (try dsimp only); first | (go_keep; done) | ((repeat' constructor) <;> first | exact (blk_cell hbx3 _).trans rfl | exact (blk_cell hbx2 _).trans rfl)
                  clear hK K
                  (try simp only [Act.put, List.setIfInBounds_toArray, List.set_cons_zero, List.set_cons_succ])
                  refine wpAnyH_done (by kernel_rfl) ?_ _
                  go_wp2_with fail
                  go_meet
                  exact ⟨ho4, hk4, hbx3⟩
                exact AllReadyH.nil
              exact AllReadyH.nil
            exact AllReadyH.nil
          refine AllReadyH.cons rfl (fun K hK => ?_) ?_
          · go_simp
            refine hK.out _ _ ?_ (fun hHeld => ?_)
            · (try dsimp only); first | (go_keep; done) | ((repeat' constructor) <;> first | exact (blk_cell hbx3 _).trans rfl | exact (blk_cell hbx2 _).trans rfl)
            clear hK K
            (try simp only [Act.put, List.setIfInBounds_toArray, List.set_cons_zero, List.set_cons_succ])
            refine wpAnyH_ready (rs := [1]) (by kernel_rfl) (by simp) ?_
            refine AllReadyH.cons rfl (fun K hK => ?_) ?_
            · rw [if_pos (by rfl)]
              refine wp_append_str _ _ 22 9 rfl (w.heap.size + 1) 5 i0 Tryz.underlying22 Tryz.underlying9 hi hz0 hz1 hz2 _ _ _ rfl (Own.below ho.out (by repeat (first | with_reducible exact Below.refl _ _ | with_reducible refine below_alloc' ?_ _ | with_reducible refine Lib.below_freeze ?_ (by dsimp only; omega) _ | with_reducible refine Below.drew ?_ | with_reducible refine below_then ?_ (by assumption)))) _ rfl (by show _ + 7 ≤ _; unfold maxLen; omega) (by show _ + 7 ≤ _; omega) (by (try simp only [size_drew, World.size_alloc]); omega) ?_
              intro v2 w2 hown2 hgrow2
              have ho2 : Hid (Own (w.heap.size + 1) w2 v2 (rowsV I k ++ [118, 101, 104, 105, 99, 108, 101])) := own_app (cs := [118, 101, 104, 105, 99, 108, 101]) (n := 7) rfl hown2
              have hkp := Hid.mk ((Kp.refl (w.heap.size + 1) _).grown (Own.below ho.out (by repeat (first | with_reducible exact Below.refl _ _ | with_reducible refine below_alloc' ?_ _ | with_reducible refine Lib.below_freeze ?_ (by dsimp only; omega) _ | with_reducible refine Below.drew ?_ | with_reducible refine below_then ?_ (by assumption)))) hgrow2 (by (try simp only [size_drew, World.size_alloc]); omega))
              have hk2 : Hid (Kp (w.heap.size + 1) wr w2) := (Kp.grown (by repeat (first | with_reducible exact Kp.refl _ _ | with_reducible refine Kp.alloc ?_ (by (try simp only [size_drew, World.size_alloc]); omega) _ | with_reducible refine Kp.drew ?_)) (Own.below ho.out (by repeat (first | with_reducible exact Below.refl _ _ | with_reducible refine below_alloc' ?_ _ | with_reducible refine Lib.below_freeze ?_ (by dsimp only; omega) _ | with_reducible refine Below.drew ?_ | with_reducible refine below_then ?_ (by assumption)))) hgrow2 (by (try simp only [size_drew, World.size_alloc]); omega))
              have hbx2 := Kp.blk hkp.out (cs := #[.int .i64 (I.V k).a, .int .i64 (I.V k).b, .int .i64 (I.V k).x, .int .i64 (I.V k).y, .int .i64 (I.V k).o, .int .i64 (I.V k).c, .int .i64 (I.V k).h]) (t := 45) (fr := (0, 0)) (g := wr.heap.size) (by repeat (first | with_reducible exact blk_new _ _ | with_reducible refine blk_alloc ?_ _ | with_reducible refine blk_drew ?_)) (by decide)
              have hs2 := hk2.out.1.size
              clear hown2 hgrow2
              refine hK.out _ _ ?_ (fun hHeld => ?_)
              · (try dsimp only); first | (go_keep; done) | ((repeat' constructor) <;> first | exact (blk_cell hbx3 _).trans rfl | exact (blk_cell hbx2 _).trans rfl)
              clear hK K
              (try simp only [Act.put, List.setIfInBounds_toArray, List.set_cons_zero, List.set_cons_succ])
              refine wpAnyH_ready (rs := [5]) (by kernel_rfl) (by simp) ?_
              refine AllReadyH.cons rfl (fun K hK => ?_) ?_
              · go_simp
                refine (numbersI (w.heap.size + 1) (rowsV I k ++ [118, 101, 104, 105, 99, 108, 101]) [(I.V k).a] _ _ _ 1 rfl (by first | exact ho2.out.alloc _ | exact ho2.out) (by (try simp only [size_drew, World.size_alloc]); omega) (HTr.out.on (by first | exact (hk2.out.alloc (by omega) _).1 | exact hk2.out.1)) (by first | exact blk_new _ _ | exact Kp.blk hkp.out (blk_drew (blk_new1 _ _ _)) (by decide) | exact Kp.blk hkp.out (blk_new1 _ _ _) (by decide)) (by intro z hz; simp only [List.mem_singleton] at hz; subst hz; exact VBk.out.a) (by simp) (by simp only [List.length_append, List.length_cons, List.length_nil]; omega)).mono ?_
                rintro e w3 ⟨v3, rfl, ho3, hk3⟩
                have hbx3 := Kp.blk hk3 (by first | exact hbx2 | exact blk_alloc hbx2 _) (by decide)
                have hk4 : Hid (Kp (w.heap.size + 1) wr w3) := by first | exact (hk2.out.alloc (by omega) _).trans hk3 | exact hk2.out.trans hk3
                have ho4 := Hid.mk ho3
                clear ho3 hk3
                go_wp2_with fail
                refine hK.out _ _ ?_ (fun hHeld => ?_)
                · (try dsimp only); first | (go_keep; done) | ((repeat' constructor) <;> first | exact (blk_cell hbx3 _).trans rfl | exact (blk_cell hbx2 _).trans rfl)
                clear hK K
                (try simp only [Act.put, List.setIfInBounds_toArray, List.set_cons_zero, List.set_cons_succ])
                refine wpAnyH_ready (rs := [6]) (by kernel_rfl) (by simp) ?_
                refine AllReadyH.cons rfl (fun K hK => ?_) ?_
                · go_simp
                  refine hK.out _ _ ?_ (fun hHeld => ?_)
                  · (try dsimp only); first | (go_keep; done) | ((repeat' constructor) <;> first | exact (blk_cell hbx3 _).trans rfl | exact (blk_cell hbx2 _).trans rfl)
                  clear hK K
                  (try simp only [Act.put, List.setIfInBounds_toArray, List.set_cons_zero, List.set_cons_succ])
                  refine wpAnyH_done (by kernel_rfl) ?_ _
                  go_wp2_with fail
                  go_meet
                  exact ⟨ho4, hk4, hbx3⟩
                exact AllReadyH.nil
              exact AllReadyH.nil
            exact AllReadyH.nil
          exact AllReadyH.nil
        case rest =>
          obtain ⟨ho1, hk1, hbx⟩ := hcut
          clear e0 e1 e2 e3 e4 e5 e6
          have hs1 := hk1.out.1.size
          have P1 := Hid.mk VBk.out.p
          have ht1 := tagText_len (I.V k).b
          have hn5 := nums_five VBk.out.p
          go_upto_region 8 with fail
          refine wp_region_held_drew (S := (fun w' => w'.cell? ⟨wr.heap.size, 1, none⟩ = some (.int .i64 (I.V k).b) ∧ w'.cell? ⟨wr.heap.size, 2, none⟩ = some (.int .i64 (I.V k).x) ∧ w'.cell? ⟨wr.heap.size, 3, none⟩ = some (.int .i64 (I.V k).y) ∧ w'.cell? ⟨wr.heap.size, 4, none⟩ = some (.int .i64 (I.V k).o) ∧ w'.cell? ⟨wr.heap.size, 5, none⟩ = some (.int .i64 (I.V k).c) ∧ w'.cell? ⟨wr.heap.size, 6, none⟩ = some (.int .i64 (I.V k).h))) (by kernel_rfl) ?_ (fun hHeld => ?_)
          · ((try dsimp only); (repeat' constructor) <;> exact (blk_cell (blk_drew hbx.out) _).trans rfl)
          refine wpAnyH_take (i := 0) (v := ?_) rfl (by kernel_rfl) (by kernel_rfl) (by kernel_rfl) (fun _ _ _ h => h) (Or.inl ⟨by rfl, ?_⟩) (by assumption) ?_
          rotate_left
          · intro w hSw; (try dsimp only at hSw); go_simp; (try with_reducible rfl)
          rotate_left
          simp only [Act.put, List.setIfInBounds_toArray, List.set_cons_zero, List.set_cons_succ]
          refine wpAnyH_take (i := 1) (v := ?_) rfl (by kernel_rfl) (by kernel_rfl) (by kernel_rfl) (fun _ _ _ h => h) (Or.inl ⟨by rfl, ?_⟩) (by assumption) ?_
          rotate_left
          · intro w hSw; (try dsimp only at hSw); go_simp; (try with_reducible rfl)
          rotate_left
          simp only [Act.put, List.setIfInBounds_toArray, List.set_cons_zero, List.set_cons_succ]
          refine wpAnyH_take (i := 2) (v := ?_) rfl (by kernel_rfl) (by kernel_rfl) (by kernel_rfl) (fun _ _ _ h => h) (Or.inl ⟨by rfl, ?_⟩) (by assumption) ?_
          rotate_left
          · intro w hSw; (try dsimp only at hSw); go_simp; (try with_reducible rfl)
          rotate_left
          simp only [Act.put, List.setIfInBounds_toArray, List.set_cons_zero, List.set_cons_succ]
          refine wpAnyH_take (i := 4) (v := ?_) rfl (by kernel_rfl) (by kernel_rfl) (by kernel_rfl) (fun _ _ _ h => h) (Or.inl ⟨by rfl, ?_⟩) (by assumption) ?_
          rotate_left
          · intro w hSw; (try dsimp only at hSw); go_simp; (try with_reducible rfl)
          rotate_left
          simp only [Act.put, List.setIfInBounds_toArray, List.set_cons_zero, List.set_cons_succ]
          refine wpAnyH_take (i := 5) (v := ?_) rfl (by kernel_rfl) (by kernel_rfl) (by kernel_rfl) (fun _ _ _ h => h) (Or.inl ⟨by rfl, ?_⟩) (by assumption) ?_
          rotate_left
          · intro w hSw; (try dsimp only at hSw); go_simp; (try with_reducible rfl)
          rotate_left
          simp only [Act.put, List.setIfInBounds_toArray, List.set_cons_zero, List.set_cons_succ]
          refine wpAnyH_ready (rs := [3]) (by kernel_rfl) (by simp) ?_
          refine AllReadyH.cons rfl (fun K hK => ?_) ?_
          · go_simp
            refine (tagsI (w.heap.size + 1) _ _ _ _ (Own.drew ho1.out) (by (try simp only [size_drew, World.size_alloc]); omega) hb1'.1 hb1'.2 (by simp only [List.length_append, List.length_cons, List.length_nil]; omega)).mono ?_
            rintro e w3 ⟨v3, rfl, ho3, hk3⟩
            have hby := Kp.blk hk3 (blk_drew hbx.out) (by decide)
            have hkA := (Kp.drew hk1.out).trans hk3
            have hs3 := hkA.1.size
            go_wp2_with fail
            refine hK.out _ _ ?_ (fun hHeld => ?_)
            · (try dsimp only); ((repeat' constructor) <;> first | exact (blk_cell hby _).trans rfl)
            clear hK K
            (try simp only [Act.put, List.setIfInBounds_toArray, List.set_cons_zero, List.set_cons_succ])
            refine wpAnyH_ready (rs := [6]) (by kernel_rfl) (by simp) ?_
            refine AllReadyH.cons rfl (fun K hK => ?_) ?_
            · go_simp
              refine (placeI (w.heap.size + 1) _ _ _ _ _ _ _ _ ho3 (by (try simp only [size_drew, World.size_alloc]); omega) (HTr.out.on hkA.1) P1.out (by simp only [List.length_append, List.length_cons, List.length_nil]; omega)).mono ?_
              rintro e w4 ⟨v4, rfl, ho4, hk4⟩
              have hby := Kp.blk hk4 hby (by decide)
              have hkA := hkA.trans hk4
              have hs4 := hkA.1.size
              go_wp2_with fail
              refine hK.out _ _ ?_ (fun hHeld => ?_)
              · (try dsimp only); ((repeat' constructor) <;> first | exact (blk_cell hby _).trans rfl)
              clear hK K
              (try simp only [Act.put, List.setIfInBounds_toArray, List.set_cons_zero, List.set_cons_succ])
              refine wpAnyH_ready (rs := [7]) (by kernel_rfl) (by simp) ?_
              refine AllReadyH.cons rfl (fun K hK => ?_) ?_
              · go_simp
                refine hK.out _ _ ?_ (fun hHeld => ?_)
                · (try dsimp only); ((repeat' constructor) <;> first | exact (blk_cell hby _).trans rfl)
                clear hK K
                (try simp only [Act.put, List.setIfInBounds_toArray, List.set_cons_zero, List.set_cons_succ])
                refine wpAnyH_done (by kernel_rfl) ?_ _
                obtain ⟨T, HO4, hTl, HTe⟩ : ∃ T, Hid (Own (w.heap.size + 1) w4 v4 T) ∧ T.length ≤ 10000000 ∧ Hid (rowsV I (k + 1) = T ++ [10]) := ⟨_, Hid.mk ho4, (by simp only [List.length_append, List.length_cons, List.length_nil]; omega), by unfold Hid; rw [rowsV_succ, line_veh]; simp only [List.append_assoc]⟩
                have HK4 := Hid.mk hkA
                have hs5 := HK4.out.1.size
                go_wp2_with (at_builtin; refine wpList_append_own _ rfl _ _ 22 rfl (w.heap.size + 1) 5 i0 (.int .u8 0) 1 1 Tryz.underlying22 hi hz0 hz1 hz2 rfl (by decide) _ _ _ rfl (HO4.out.alloc _) ⟨w4.heap.size, 0, none⟩ 1 1 [Value.int .u8 10] rfl rfl (by intro j u' hj; match j, hj with | 0, hj => simp at hj; subst hj; simp [Addr.add]) (by intro u' hu'; simp at hu'; subst hu'; rfl) (by unfold maxLen; omega) (by omega) (by simp; omega) ?_)
                intro v5 w5 hown5 hgrow5 _
                have HK5 := Hid.mk ((HK4.out.alloc (by omega) _).grown (HO4.out.alloc _) hgrow5 (by simp; omega))
                have HO5 : Hid (Own (w.heap.size + 1) w5 v5 (rowsV I (k + 1))) := by rw [HTe.out]; exact own_snoc rfl hown5
                have HB5 : Hid (Below w.heap.size w w5) := hb.out.trans (HK5.out.1.mono (Nat.le_succ _))
                have HX5 := Hid.mk (HK5.out.blk hx.out (by decide))
                clear hown5 hgrow5
                go_wp2
                exact ⟨⟨k + 1, by omega, by go_num, HO5, HB5, HX5⟩, by simp [intOf]; omega⟩
              exact AllReadyH.nil
            exact AllReadyH.nil
          exact AllReadyH.nil

      · have hkn : k = I.nV := by omega
        subst hkn
        have x1 := blk_cell hx.out 1
        simp only [List.getElem?_toArray, List.getElem?_cons_zero, List.getElem?_cons_succ] at x1
        go_wp2
        clear x1 hlt hl hwz hk
        obtain ⟨wo, hwo⟩ : ∃ wo : World, wo = wr := ⟨_, rfl⟩
        rw [← hwo] at hb hx ho ⊢
        clear hwo
        go_loopw [3, 42] (fun v i wr => ∃ k : Nat, k ≤ I.nQ ∧ i = .int .i64 k ∧ Hid (Own (w.heap.size + 1) wr v (rowsQ I k)) ∧ Hid (Below w.heap.size w wr) ∧ Hid (wr.heap[w.heap.size]? = some (.cells #[.slice a1 I.nV c1, .slice a2 I.nQ c2, .slice a3 I.nR c3] 27))) (fun _ i _ => I.nQ - (intOf i).toNat)
        case atStart => exact ⟨0, Nat.zero_le _, rfl, by rw [rowsQ_zero]; exact ho, hb, hx⟩
        case round =>
          clear hb hx ho
          obtain ⟨k, hk, rfl, ho, hb, hx⟩ := hrel
          have hl := rowsQ_len G.out hk
          have hwz := blk_lt hx.out
          by_cases hlt : k < I.nQ
          · rcases H.out.q with hs | ⟨b, off, rfl, hs⟩
            · omega
            obtain ⟨e0, e1, e2, e3, e4, e5, e6, e7, e8, e9, e10, e11⟩ := Req.at (rangeAt_below (hs k hlt) hb.out)
            clear hs
            have VBk := Hid.mk (G.out.q k hlt)
            have hb0 := VBk.out.a
            have hb1' := VBk.out.b
            have HTr := Hid.mk (HT.out.up hb.out (Nat.le_succ w.heap.size))
            have hnl := nums_one VBk.out.a
            go_upto_region 14 with fail
            go_cut [3] from 43 to 65 (fun s3 wx => Hid (Own (w.heap.size + 1) wx s3 ((rowsQ I k ++ [114, 101, 113, 117, 101, 115, 116]) ++ nums [(I.Q k).a] 1)) ∧ Hid (Kp (w.heap.size + 1) wr wx) ∧ Hid (wx.heap[wr.heap.size]? = some (.cells #[.int .i64 (I.Q k).a, .int .i64 (I.Q k).b, .int .i64 (I.Q k).x, .int .i64 (I.Q k).y, .int .i64 (I.Q k).o, .int .i64 (I.Q k).c, .int .i64 (I.Q k).h, .int .i64 (I.Q k).x', .int .i64 (I.Q k).y', .int .i64 (I.Q k).o', .int .i64 (I.Q k).c', .int .i64 (I.Q k).h'] 48)))
            case first =>
              clear e0 e1 e2 e3 e4 e5 e6 e7 e8 e9 e10 e11
              refine wp_region_held_drew (S := (fun w' => w'.cell? ⟨wr.heap.size, 0, none⟩ = some (.int .i64 (I.Q k).a))) (by kernel_rfl) ?_ (fun hHeld => ?_)
              · go_keep
              refine wpAnyH_take (i := 0) (v := ?_) rfl (by kernel_rfl) (by kernel_rfl) (by kernel_rfl) (fun _ _ _ h => h) (Or.inl ⟨by rfl, ?_⟩) (by assumption) ?_
              rotate_left
              · intro w hSw; (try dsimp only at hSw); go_simp; (try with_reducible rfl)
              rotate_left
              simp only [Act.put, List.setIfInBounds_toArray, List.set_cons_zero, List.set_cons_succ]
              refine wpAnyH_take (i := 2) (v := ?_) rfl (by kernel_rfl) (by kernel_rfl) (by kernel_rfl) (fun _ _ _ h => h) (Or.inl ⟨by rfl, ?_⟩) (by assumption) ?_
              rotate_left
              · intro w hSw; (try dsimp only at hSw); go_simp; (try with_reducible rfl)
              rotate_left
              simp only [Act.put, List.setIfInBounds_toArray, List.set_cons_zero, List.set_cons_succ]
              refine wpAnyH_take (i := 3) (v := ?_) rfl (by kernel_rfl) (by kernel_rfl) (by kernel_rfl) (fun _ _ _ h => h) (Or.inl ⟨by rfl, ?_⟩) (by assumption) ?_
              rotate_left
              · intro w hSw; (try dsimp only at hSw); go_simp; (try with_reducible rfl)
              rotate_left
              simp only [Act.put, List.setIfInBounds_toArray, List.set_cons_zero, List.set_cons_succ]
              refine wpAnyH_ready (rs := [1, 4]) (by kernel_rfl) (by simp) ?_
              refine AllReadyH.cons rfl (fun K hK => ?_) ?_
              · rw [if_pos (by rfl)]
                refine wp_append_str _ _ 22 9 rfl (w.heap.size + 1) 5 i0 Tryz.underlying22 Tryz.underlying9 hi hz0 hz1 hz2 _ _ _ rfl (Own.below ho.out (by repeat (first | with_reducible exact Below.refl _ _ | with_reducible refine below_alloc' ?_ _ | with_reducible refine Lib.below_freeze ?_ (by dsimp only; omega) _ | with_reducible refine Below.drew ?_ | with_reducible refine below_then ?_ (by assumption)))) _ rfl (by show _ + 7 ≤ _; unfold maxLen; omega) (by show _ + 7 ≤ _; omega) (by (try simp only [size_drew, World.size_alloc]); omega) ?_
                intro v2 w2 hown2 hgrow2
                have ho2 : Hid (Own (w.heap.size + 1) w2 v2 (rowsQ I k ++ [114, 101, 113, 117, 101, 115, 116])) := own_app (cs := [114, 101, 113, 117, 101, 115, 116]) (n := 7) rfl hown2
                have hkp := Hid.mk ((Kp.refl (w.heap.size + 1) _).grown (Own.below ho.out (by repeat (first | with_reducible exact Below.refl _ _ | with_reducible refine below_alloc' ?_ _ | with_reducible refine Lib.below_freeze ?_ (by dsimp only; omega) _ | with_reducible refine Below.drew ?_ | with_reducible refine below_then ?_ (by assumption)))) hgrow2 (by (try simp only [size_drew, World.size_alloc]); omega))
                have hk2 : Hid (Kp (w.heap.size + 1) wr w2) := (Kp.grown (by repeat (first | with_reducible exact Kp.refl _ _ | with_reducible refine Kp.alloc ?_ (by (try simp only [size_drew, World.size_alloc]); omega) _ | with_reducible refine Kp.drew ?_)) (Own.below ho.out (by repeat (first | with_reducible exact Below.refl _ _ | with_reducible refine below_alloc' ?_ _ | with_reducible refine Lib.below_freeze ?_ (by dsimp only; omega) _ | with_reducible refine Below.drew ?_ | with_reducible refine below_then ?_ (by assumption)))) hgrow2 (by (try simp only [size_drew, World.size_alloc]); omega))
                have hbx2 := Kp.blk hkp.out (cs := #[.int .i64 (I.Q k).a, .int .i64 (I.Q k).b, .int .i64 (I.Q k).x, .int .i64 (I.Q k).y, .int .i64 (I.Q k).o, .int .i64 (I.Q k).c, .int .i64 (I.Q k).h, .int .i64 (I.Q k).x', .int .i64 (I.Q k).y', .int .i64 (I.Q k).o', .int .i64 (I.Q k).c', .int .i64 (I.Q k).h']) (t := 48) (fr := (0, 0)) (g := wr.heap.size) (by repeat (first | with_reducible exact blk_new _ _ | with_reducible refine blk_alloc ?_ _ | with_reducible refine blk_drew ?_)) (by decide)
                have hs2 := hk2.out.1.size
                clear hown2 hgrow2
                refine hK.out _ _ ?_ (fun hHeld => ?_)
                · (try dsimp only); first | (go_keep; done) | ((repeat' constructor) <;> first | exact (blk_cell hbx3 _).trans rfl | exact (blk_cell hbx2 _).trans rfl)
                clear hK K
                (try simp only [Act.put, List.setIfInBounds_toArray, List.set_cons_zero, List.set_cons_succ])
                refine wpAnyH_ready (rs := [4]) (by kernel_rfl) (by simp) ?_
                refine AllReadyH.cons rfl (fun K hK => ?_) ?_
                · go_simp
                  refine hK.out _ _ ?_ (fun hHeld => ?_)
                  · (try dsimp only); first | (go_keep; done) | ((repeat' constructor) <;> first | exact (blk_cell hbx3 _).trans rfl | exact (blk_cell hbx2 _).trans rfl)
                  clear hK K
                  (try simp only [Act.put, List.setIfInBounds_toArray, List.set_cons_zero, List.set_cons_succ])
                  refine wpAnyH_ready (rs := [5]) (by kernel_rfl) (by simp) ?_
                  refine AllReadyH.cons rfl (fun K hK => ?_) ?_
                  · go_simp
                    refine (numbersI (w.heap.size + 1) (rowsQ I k ++ [114, 101, 113, 117, 101, 115, 116]) [(I.Q k).a] _ _ _ 1 rfl (by first | exact ho2.out.alloc _ | exact ho2.out) (by (try simp only [size_drew, World.size_alloc]); omega) (HTr.out.on (by first | exact (hk2.out.alloc (by omega) _).1 | exact hk2.out.1)) (by first | exact blk_new _ _ | exact Kp.blk hkp.out (blk_drew (blk_new1 _ _ _)) (by decide) | exact Kp.blk hkp.out (blk_new1 _ _ _) (by decide)) (by intro z hz; simp only [List.mem_singleton] at hz; subst hz; exact VBk.out.a) (by simp) (by simp only [List.length_append, List.length_cons, List.length_nil]; omega)).mono ?_
                    rintro e w3 ⟨v3, rfl, ho3, hk3⟩
                    have hbx3 := Kp.blk hk3 (by first | exact hbx2 | exact blk_alloc hbx2 _) (by decide)
                    have hk4 : Hid (Kp (w.heap.size + 1) wr w3) := by first | exact (hk2.out.alloc (by omega) _).trans hk3 | exact hk2.out.trans hk3
                    have ho4 := Hid.mk ho3
                    clear ho3 hk3
                    go_wp2_with fail
                    refine hK.out _ _ ?_ (fun hHeld => ?_)
                    · (try dsimp only); first | (go_keep; done) | ((repeat' constructor) <;> first | exact (blk_cell hbx3 _).trans rfl | exact (blk_cell hbx2 _).trans rfl)
                    clear hK K
                    (try simp only [Act.put, List.setIfInBounds_toArray, List.set_cons_zero, List.set_cons_succ])
                    refine wpAnyH_ready (rs := [6]) (by kernel_rfl) (by simp) ?_
                    refine AllReadyH.cons rfl (fun K hK => ?_) ?_
                    · go_simp
                      refine hK.out _ _ ?_ (fun hHeld => ?_)
                      · (try dsimp only); first | (go_keep; done) | ((repeat' constructor) <;> first | exact (blk_cell hbx3 _).trans rfl | exact (blk_cell hbx2 _).trans rfl)
                      clear hK K
                      (try simp only [Act.put, List.setIfInBounds_toArray, List.set_cons_zero, List.set_cons_succ])
                      refine wpAnyH_done (by kernel_rfl) ?_ _
                      go_wp2_with fail
                      go_meet
                      exact ⟨ho4, hk4, hbx3⟩
                    exact AllReadyH.nil
                  exact AllReadyH.nil
                exact AllReadyH.nil
              refine AllReadyH.cons rfl (fun K hK => ?_) ?_
              · go_simp
                refine hK.out _ _ ?_ (fun hHeld => ?_)
                · (try dsimp only); first | (go_keep; done) | ((repeat' constructor) <;> first | exact (blk_cell hbx3 _).trans rfl | exact (blk_cell hbx2 _).trans rfl)
                clear hK K
                (try simp only [Act.put, List.setIfInBounds_toArray, List.set_cons_zero, List.set_cons_succ])
                refine wpAnyH_ready (rs := [1]) (by kernel_rfl) (by simp) ?_
                refine AllReadyH.cons rfl (fun K hK => ?_) ?_
                · rw [if_pos (by rfl)]
                  refine wp_append_str _ _ 22 9 rfl (w.heap.size + 1) 5 i0 Tryz.underlying22 Tryz.underlying9 hi hz0 hz1 hz2 _ _ _ rfl (Own.below ho.out (by repeat (first | with_reducible exact Below.refl _ _ | with_reducible refine below_alloc' ?_ _ | with_reducible refine Lib.below_freeze ?_ (by dsimp only; omega) _ | with_reducible refine Below.drew ?_ | with_reducible refine below_then ?_ (by assumption)))) _ rfl (by show _ + 7 ≤ _; unfold maxLen; omega) (by show _ + 7 ≤ _; omega) (by (try simp only [size_drew, World.size_alloc]); omega) ?_
                  intro v2 w2 hown2 hgrow2
                  have ho2 : Hid (Own (w.heap.size + 1) w2 v2 (rowsQ I k ++ [114, 101, 113, 117, 101, 115, 116])) := own_app (cs := [114, 101, 113, 117, 101, 115, 116]) (n := 7) rfl hown2
                  have hkp := Hid.mk ((Kp.refl (w.heap.size + 1) _).grown (Own.below ho.out (by repeat (first | with_reducible exact Below.refl _ _ | with_reducible refine below_alloc' ?_ _ | with_reducible refine Lib.below_freeze ?_ (by dsimp only; omega) _ | with_reducible refine Below.drew ?_ | with_reducible refine below_then ?_ (by assumption)))) hgrow2 (by (try simp only [size_drew, World.size_alloc]); omega))
                  have hk2 : Hid (Kp (w.heap.size + 1) wr w2) := (Kp.grown (by repeat (first | with_reducible exact Kp.refl _ _ | with_reducible refine Kp.alloc ?_ (by (try simp only [size_drew, World.size_alloc]); omega) _ | with_reducible refine Kp.drew ?_)) (Own.below ho.out (by repeat (first | with_reducible exact Below.refl _ _ | with_reducible refine below_alloc' ?_ _ | with_reducible refine Lib.below_freeze ?_ (by dsimp only; omega) _ | with_reducible refine Below.drew ?_ | with_reducible refine below_then ?_ (by assumption)))) hgrow2 (by (try simp only [size_drew, World.size_alloc]); omega))
                  have hbx2 := Kp.blk hkp.out (cs := #[.int .i64 (I.Q k).a, .int .i64 (I.Q k).b, .int .i64 (I.Q k).x, .int .i64 (I.Q k).y, .int .i64 (I.Q k).o, .int .i64 (I.Q k).c, .int .i64 (I.Q k).h, .int .i64 (I.Q k).x', .int .i64 (I.Q k).y', .int .i64 (I.Q k).o', .int .i64 (I.Q k).c', .int .i64 (I.Q k).h']) (t := 48) (fr := (0, 0)) (g := wr.heap.size) (by repeat (first | with_reducible exact blk_new _ _ | with_reducible refine blk_alloc ?_ _ | with_reducible refine blk_drew ?_)) (by decide)
                  have hs2 := hk2.out.1.size
                  clear hown2 hgrow2
                  refine hK.out _ _ ?_ (fun hHeld => ?_)
                  · (try dsimp only); first | (go_keep; done) | ((repeat' constructor) <;> first | exact (blk_cell hbx3 _).trans rfl | exact (blk_cell hbx2 _).trans rfl)
                  clear hK K
                  (try simp only [Act.put, List.setIfInBounds_toArray, List.set_cons_zero, List.set_cons_succ])
                  refine wpAnyH_ready (rs := [5]) (by kernel_rfl) (by simp) ?_
                  refine AllReadyH.cons rfl (fun K hK => ?_) ?_
                  · go_simp
                    refine (numbersI (w.heap.size + 1) (rowsQ I k ++ [114, 101, 113, 117, 101, 115, 116]) [(I.Q k).a] _ _ _ 1 rfl (by first | exact ho2.out.alloc _ | exact ho2.out) (by (try simp only [size_drew, World.size_alloc]); omega) (HTr.out.on (by first | exact (hk2.out.alloc (by omega) _).1 | exact hk2.out.1)) (by first | exact blk_new _ _ | exact Kp.blk hkp.out (blk_drew (blk_new1 _ _ _)) (by decide) | exact Kp.blk hkp.out (blk_new1 _ _ _) (by decide)) (by intro z hz; simp only [List.mem_singleton] at hz; subst hz; exact VBk.out.a) (by simp) (by simp only [List.length_append, List.length_cons, List.length_nil]; omega)).mono ?_
                    rintro e w3 ⟨v3, rfl, ho3, hk3⟩
                    have hbx3 := Kp.blk hk3 (by first | exact hbx2 | exact blk_alloc hbx2 _) (by decide)
                    have hk4 : Hid (Kp (w.heap.size + 1) wr w3) := by first | exact (hk2.out.alloc (by omega) _).trans hk3 | exact hk2.out.trans hk3
                    have ho4 := Hid.mk ho3
                    clear ho3 hk3
                    go_wp2_with fail
                    refine hK.out _ _ ?_ (fun hHeld => ?_)
                    · (try dsimp only); first | (go_keep; done) | ((repeat' constructor) <;> first | exact (blk_cell hbx3 _).trans rfl | exact (blk_cell hbx2 _).trans rfl)
                    clear hK K
                    (try simp only [Act.put, List.setIfInBounds_toArray, List.set_cons_zero, List.set_cons_succ])
                    refine wpAnyH_ready (rs := [6]) (by kernel_rfl) (by simp) ?_
                    refine AllReadyH.cons rfl (fun K hK => ?_) ?_
                    · go_simp
                      refine hK.out _ _ ?_ (fun hHeld => ?_)
                      · (try dsimp only); first | (go_keep; done) | ((repeat' constructor) <;> first | exact (blk_cell hbx3 _).trans rfl | exact (blk_cell hbx2 _).trans rfl)
                      clear hK K
                      (try simp only [Act.put, List.setIfInBounds_toArray, List.set_cons_zero, List.set_cons_succ])
                      refine wpAnyH_done (by kernel_rfl) ?_ _
                      go_wp2_with fail
                      go_meet
                      exact ⟨ho4, hk4, hbx3⟩
                    exact AllReadyH.nil
                  exact AllReadyH.nil
                exact AllReadyH.nil
              exact AllReadyH.nil
            case rest =>
              obtain ⟨ho1, hk1, hbx⟩ := hcut
              clear e0 e1 e2 e3 e4 e5 e6 e7 e8 e9 e10 e11
              have hs1 := hk1.out.1.size
              have P1 := Hid.mk VBk.out.p
              have ht1 := tagText_len (I.Q k).b
              have hn5 := nums_five VBk.out.p
              have P2 := Hid.mk VBk.out.p'
              have hn6 := nums_five VBk.out.p'
              go_upto_region 15 with fail
              refine wp_region_held_drew (S := (fun w' => w'.cell? ⟨wr.heap.size, 1, none⟩ = some (.int .i64 (I.Q k).b) ∧ w'.cell? ⟨wr.heap.size, 2, none⟩ = some (.int .i64 (I.Q k).x) ∧ w'.cell? ⟨wr.heap.size, 3, none⟩ = some (.int .i64 (I.Q k).y) ∧ w'.cell? ⟨wr.heap.size, 4, none⟩ = some (.int .i64 (I.Q k).o) ∧ w'.cell? ⟨wr.heap.size, 5, none⟩ = some (.int .i64 (I.Q k).c) ∧ w'.cell? ⟨wr.heap.size, 6, none⟩ = some (.int .i64 (I.Q k).h) ∧ w'.cell? ⟨wr.heap.size, 7, none⟩ = some (.int .i64 (I.Q k).x') ∧ w'.cell? ⟨wr.heap.size, 8, none⟩ = some (.int .i64 (I.Q k).y') ∧ w'.cell? ⟨wr.heap.size, 9, none⟩ = some (.int .i64 (I.Q k).o') ∧ w'.cell? ⟨wr.heap.size, 10, none⟩ = some (.int .i64 (I.Q k).c') ∧ w'.cell? ⟨wr.heap.size, 11, none⟩ = some (.int .i64 (I.Q k).h'))) (by kernel_rfl) ?_ (fun hHeld => ?_)
              · ((try dsimp only); (repeat' constructor) <;> exact (blk_cell (blk_drew hbx.out) _).trans rfl)
              refine wpAnyH_take (i := 0) (v := ?_) rfl (by kernel_rfl) (by kernel_rfl) (by kernel_rfl) (fun _ _ _ h => h) (Or.inl ⟨by rfl, ?_⟩) (by assumption) ?_
              rotate_left
              · intro w hSw; (try dsimp only at hSw); go_simp; (try with_reducible rfl)
              rotate_left
              simp only [Act.put, List.setIfInBounds_toArray, List.set_cons_zero, List.set_cons_succ]
              refine wpAnyH_take (i := 1) (v := ?_) rfl (by kernel_rfl) (by kernel_rfl) (by kernel_rfl) (fun _ _ _ h => h) (Or.inl ⟨by rfl, ?_⟩) (by assumption) ?_
              rotate_left
              · intro w hSw; (try dsimp only at hSw); go_simp; (try with_reducible rfl)
              rotate_left
              simp only [Act.put, List.setIfInBounds_toArray, List.set_cons_zero, List.set_cons_succ]
              refine wpAnyH_take (i := 2) (v := ?_) rfl (by kernel_rfl) (by kernel_rfl) (by kernel_rfl) (fun _ _ _ h => h) (Or.inl ⟨by rfl, ?_⟩) (by assumption) ?_
              rotate_left
              · intro w hSw; (try dsimp only at hSw); go_simp; (try with_reducible rfl)
              rotate_left
              simp only [Act.put, List.setIfInBounds_toArray, List.set_cons_zero, List.set_cons_succ]
              refine wpAnyH_take (i := 4) (v := ?_) rfl (by kernel_rfl) (by kernel_rfl) (by kernel_rfl) (fun _ _ _ h => h) (Or.inl ⟨by rfl, ?_⟩) (by assumption) ?_
              rotate_left
              · intro w hSw; (try dsimp only at hSw); go_simp; (try with_reducible rfl)
              rotate_left
              simp only [Act.put, List.setIfInBounds_toArray, List.set_cons_zero, List.set_cons_succ]
              refine wpAnyH_take (i := 5) (v := ?_) rfl (by kernel_rfl) (by kernel_rfl) (by kernel_rfl) (fun _ _ _ h => h) (Or.inl ⟨by rfl, ?_⟩) (by assumption) ?_
              rotate_left
              · intro w hSw; (try dsimp only at hSw); go_simp; (try with_reducible rfl)
              rotate_left
              simp only [Act.put, List.setIfInBounds_toArray, List.set_cons_zero, List.set_cons_succ]
              refine wpAnyH_take (i := 7) (v := ?_) rfl (by kernel_rfl) (by kernel_rfl) (by kernel_rfl) (fun _ _ _ h => h) (Or.inl ⟨by rfl, ?_⟩) (by assumption) ?_
              rotate_left
              · intro w hSw; (try dsimp only at hSw); go_simp; (try with_reducible rfl)
              rotate_left
              simp only [Act.put, List.setIfInBounds_toArray, List.set_cons_zero, List.set_cons_succ]
              refine wpAnyH_take (i := 8) (v := ?_) rfl (by kernel_rfl) (by kernel_rfl) (by kernel_rfl) (fun _ _ _ h => h) (Or.inl ⟨by rfl, ?_⟩) (by assumption) ?_
              rotate_left
              · intro w hSw; (try dsimp only at hSw); go_simp; (try with_reducible rfl)
              rotate_left
              simp only [Act.put, List.setIfInBounds_toArray, List.set_cons_zero, List.set_cons_succ]
              refine wpAnyH_ready (rs := [3]) (by kernel_rfl) (by simp) ?_
              refine AllReadyH.cons rfl (fun K hK => ?_) ?_
              · go_simp
                refine (tagsI (w.heap.size + 1) _ _ _ _ (Own.drew ho1.out) (by (try simp only [size_drew, World.size_alloc]); omega) hb1'.1 hb1'.2 (by simp only [List.length_append, List.length_cons, List.length_nil]; omega)).mono ?_
                rintro e w3 ⟨v3, rfl, ho3, hk3⟩
                have hby := Kp.blk hk3 (blk_drew hbx.out) (by decide)
                have hkA := (Kp.drew hk1.out).trans hk3
                have hs3 := hkA.1.size
                go_wp2_with fail
                refine hK.out _ _ ?_ (fun hHeld => ?_)
                · (try dsimp only); ((repeat' constructor) <;> first | exact (blk_cell hby _).trans rfl)
                clear hK K
                (try simp only [Act.put, List.setIfInBounds_toArray, List.set_cons_zero, List.set_cons_succ])
                refine wpAnyH_ready (rs := [6]) (by kernel_rfl) (by simp) ?_
                refine AllReadyH.cons rfl (fun K hK => ?_) ?_
                · go_simp
                  refine (placeI (w.heap.size + 1) _ _ _ _ _ _ _ _ ho3 (by (try simp only [size_drew, World.size_alloc]); omega) (HTr.out.on hkA.1) P1.out (by simp only [List.length_append, List.length_cons, List.length_nil]; omega)).mono ?_
                  rintro e w4 ⟨v4, rfl, ho4, hk4⟩
                  have hby := Kp.blk hk4 hby (by decide)
                  have hkA := hkA.trans hk4
                  have hs4 := hkA.1.size
                  go_wp2_with fail
                  refine hK.out _ _ ?_ (fun hHeld => ?_)
                  · (try dsimp only); ((repeat' constructor) <;> first | exact (blk_cell hby _).trans rfl)
                  clear hK K
                  (try simp only [Act.put, List.setIfInBounds_toArray, List.set_cons_zero, List.set_cons_succ])
                  refine wpAnyH_ready (rs := [9]) (by kernel_rfl) (by simp) ?_
                  refine AllReadyH.cons rfl (fun K hK => ?_) ?_
                  · go_simp
                    refine (placeI (w.heap.size + 1) _ _ _ _ _ _ _ _ ho4 (by (try simp only [size_drew, World.size_alloc]); omega) (HTr.out.on hkA.1) P2.out (by simp only [List.length_append, List.length_cons, List.length_nil]; omega)).mono ?_
                    rintro e w4 ⟨v4, rfl, ho4, hk4⟩
                    have hby := Kp.blk hk4 hby (by decide)
                    have hkA := hkA.trans hk4
                    have hs4 := hkA.1.size
                    go_wp2_with fail
                    refine hK.out _ _ ?_ (fun hHeld => ?_)
                    · (try dsimp only); ((repeat' constructor) <;> first | exact (blk_cell hby _).trans rfl)
                    clear hK K
                    (try simp only [Act.put, List.setIfInBounds_toArray, List.set_cons_zero, List.set_cons_succ])
                    refine wpAnyH_ready (rs := [10]) (by kernel_rfl) (by simp) ?_
                    refine AllReadyH.cons rfl (fun K hK => ?_) ?_
                    · go_simp
                      refine hK.out _ _ ?_ (fun hHeld => ?_)
                      · (try dsimp only); ((repeat' constructor) <;> first | exact (blk_cell hby _).trans rfl)
                      clear hK K
                      (try simp only [Act.put, List.setIfInBounds_toArray, List.set_cons_zero, List.set_cons_succ])
                      refine wpAnyH_done (by kernel_rfl) ?_ _
                      obtain ⟨T, HO4, hTl, HTe⟩ : ∃ T, Hid (Own (w.heap.size + 1) w4 v4 T) ∧ T.length ≤ 10000000 ∧ Hid (rowsQ I (k + 1) = T ++ [10]) := ⟨_, Hid.mk ho4, (by simp only [List.length_append, List.length_cons, List.length_nil]; omega), by unfold Hid; rw [rowsQ_succ, line_req]; simp only [List.append_assoc]⟩
                      have HK4 := Hid.mk hkA
                      have hs5 := HK4.out.1.size
                      go_wp2_with (at_builtin; refine wpList_append_own _ rfl _ _ 22 rfl (w.heap.size + 1) 5 i0 (.int .u8 0) 1 1 Tryz.underlying22 hi hz0 hz1 hz2 rfl (by decide) _ _ _ rfl (HO4.out.alloc _) ⟨w4.heap.size, 0, none⟩ 1 1 [Value.int .u8 10] rfl rfl (by intro j u' hj; match j, hj with | 0, hj => simp at hj; subst hj; simp [Addr.add]) (by intro u' hu'; simp at hu'; subst hu'; rfl) (by unfold maxLen; omega) (by omega) (by simp; omega) ?_)
                      intro v5 w5 hown5 hgrow5 _
                      have HK5 := Hid.mk ((HK4.out.alloc (by omega) _).grown (HO4.out.alloc _) hgrow5 (by simp; omega))
                      have HO5 : Hid (Own (w.heap.size + 1) w5 v5 (rowsQ I (k + 1))) := by rw [HTe.out]; exact own_snoc rfl hown5
                      have HB5 : Hid (Below w.heap.size w w5) := hb.out.trans (HK5.out.1.mono (Nat.le_succ _))
                      have HX5 := Hid.mk (HK5.out.blk hx.out (by decide))
                      clear hown5 hgrow5
                      go_wp2
                      exact ⟨⟨k + 1, by omega, by go_num, HO5, HB5, HX5⟩, by simp [intOf]; omega⟩
                    exact AllReadyH.nil
                  exact AllReadyH.nil
                exact AllReadyH.nil
              exact AllReadyH.nil

          · have hkn : k = I.nQ := by omega
            subst hkn
            have x1 := blk_cell hx.out 2
            simp only [List.getElem?_toArray, List.getElem?_cons_zero, List.getElem?_cons_succ] at x1
            go_wp2
            clear x1 hlt hl hwz hk
            obtain ⟨wo, hwo⟩ : ∃ wo : World, wo = wr := ⟨_, rfl⟩
            rw [← hwo] at hb hx ho ⊢
            clear hwo
            go_loopw [3, 69] (fun v i wr => ∃ k : Nat, k ≤ I.nR ∧ i = .int .i64 k ∧ Hid (Own (w.heap.size + 1) wr v (rowsR I k)) ∧ Hid (Below w.heap.size w wr) ∧ Hid (wr.heap[w.heap.size]? = some (.cells #[.slice a1 I.nV c1, .slice a2 I.nQ c2, .slice a3 I.nR c3] 27))) (fun _ i _ => I.nR - (intOf i).toNat)
            case atStart => exact ⟨0, Nat.zero_le _, rfl, by rw [rowsR_zero]; exact ho, hb, hx⟩
            case round =>
              clear hb hx ho
              obtain ⟨k, hk, rfl, ho, hb, hx⟩ := hrel
              have hl := rowsR_len G.out hk
              have hwz := blk_lt hx.out
              by_cases hlt : k < I.nR
              · rcases H.out.r with hs | ⟨b, off, rfl, hs⟩
                · omega
                obtain ⟨e0, e1, e2⟩ := Rd.at (rangeAt_below (hs k hlt) hb.out)
                clear hs
                have VBk := Hid.mk (G.out.r k hlt)
                have hb0 := VBk.out.a
                have hb1' := VBk.out.b
                have HTr := Hid.mk (HT.out.up hb.out (Nat.le_succ w.heap.size))
                have hnl := nums_len (zs := [(I.R k).a, (I.R k).b, (I.R k).t]) (by have h0 := VBk.out.a; have h1 := VBk.out.b; have h2 := VBk.out.t; intro z hz; simp only [List.mem_cons, List.not_mem_nil, or_false] at hz; rcases hz with rfl | rfl | rfl <;> assumption) 3 (by simp)
                go_upto_region 21 with fail
                go_cut [3] from 70 to 86 (fun s3 wx => Hid (Own (w.heap.size + 1) wx s3 ((rowsR I k ++ [114, 111, 97, 100]) ++ nums [(I.R k).a, (I.R k).b, (I.R k).t] 3)) ∧ Hid (Kp (w.heap.size + 1) wr wx) ∧ Hid (wx.heap[wr.heap.size]? = some (.cells #[.int .i64 (I.R k).a, .int .i64 (I.R k).b, .int .i64 (I.R k).t] 51)))
                case first =>
                  clear e0 e1 e2
                  refine wp_region_held_drew (S := (fun w' => w'.cell? ⟨wr.heap.size, 0, none⟩ = some (.int .i64 (I.R k).a) ∧ w'.cell? ⟨wr.heap.size, 1, none⟩ = some (.int .i64 (I.R k).b) ∧ w'.cell? ⟨wr.heap.size, 2, none⟩ = some (.int .i64 (I.R k).t))) (by kernel_rfl) ?_ (fun hHeld => ?_)
                  · go_keep
                  refine wpAnyH_take (i := 0) (v := ?_) rfl (by kernel_rfl) (by kernel_rfl) (by kernel_rfl) (fun _ _ _ h => h) (Or.inl ⟨by rfl, ?_⟩) (by assumption) ?_
                  rotate_left
                  · intro w hSw; (try dsimp only at hSw); go_simp; (try with_reducible rfl)
                  rotate_left
                  simp only [Act.put, List.setIfInBounds_toArray, List.set_cons_zero, List.set_cons_succ, List.getElem_toArray, List.getElem_cons_zero, List.getElem_cons_succ]
                  refine wpAnyH_take (i := 2) (v := ?_) rfl (by kernel_rfl) (by kernel_rfl) (by kernel_rfl) (fun _ _ _ h => h) (Or.inl ⟨by rfl, ?_⟩) (by assumption) ?_
                  rotate_left
                  · intro w hSw; (try dsimp only at hSw); go_simp; (try with_reducible rfl)
                  rotate_left
                  simp only [Act.put, List.setIfInBounds_toArray, List.set_cons_zero, List.set_cons_succ, List.getElem_toArray, List.getElem_cons_zero, List.getElem_cons_succ]
                  refine wpAnyH_take (i := 3) (v := ?_) rfl (by kernel_rfl) (by kernel_rfl) (by kernel_rfl) (fun _ _ _ h => h) (Or.inl ⟨by rfl, ?_⟩) (by assumption) ?_
                  rotate_left
                  · intro w hSw; (try dsimp only at hSw); go_simp; (try with_reducible rfl)
                  rotate_left
                  simp only [Act.put, List.setIfInBounds_toArray, List.set_cons_zero, List.set_cons_succ, List.getElem_toArray, List.getElem_cons_zero, List.getElem_cons_succ]
                  refine wpAnyH_take (i := 4) (v := ?_) rfl (by kernel_rfl) (by kernel_rfl) (by kernel_rfl) (fun _ _ _ h => h) (Or.inl ⟨by rfl, ?_⟩) (by assumption) ?_
                  rotate_left
                  · intro w hSw; (try dsimp only at hSw); go_simp; (try with_reducible rfl)
                  rotate_left
                  simp only [Act.put, List.setIfInBounds_toArray, List.set_cons_zero, List.set_cons_succ, List.getElem_toArray, List.getElem_cons_zero, List.getElem_cons_succ]
                  refine wpAnyH_take (i := 5) (v := ?_) rfl (by kernel_rfl) (by kernel_rfl) (by kernel_rfl) (fun _ _ _ h => h) (Or.inl ⟨by rfl, ?_⟩) (by assumption) ?_
                  rotate_left
                  · intro w hSw; (try dsimp only at hSw); go_simp; (try with_reducible rfl)
                  rotate_left
                  simp only [Act.put, List.setIfInBounds_toArray, List.set_cons_zero, List.set_cons_succ, List.getElem_toArray, List.getElem_cons_zero, List.getElem_cons_succ]
                  refine wpAnyH_take (i := 6) (v := ?_) rfl (by kernel_rfl) (by kernel_rfl) (by kernel_rfl) (fun _ _ _ h => h) (Or.inl ⟨by rfl, ?_⟩) (by assumption) ?_
                  rotate_left
                  · intro w hSw; (try dsimp only at hSw); go_simp; (try with_reducible rfl)
                  rotate_left
                  simp only [Act.put, List.setIfInBounds_toArray, List.set_cons_zero, List.set_cons_succ, List.getElem_toArray, List.getElem_cons_zero, List.getElem_cons_succ]
                  refine wpAnyH_take (i := 7) (v := ?_) rfl (by kernel_rfl) (by kernel_rfl) (by kernel_rfl) (fun _ _ _ h => h) (Or.inl ⟨by rfl, ?_⟩) (by assumption) ?_
                  rotate_left
                  · intro w hSw; (try dsimp only at hSw); go_simp; (try with_reducible rfl)
                  rotate_left
                  simp only [Act.put, List.setIfInBounds_toArray, List.set_cons_zero, List.set_cons_succ, List.getElem_toArray, List.getElem_cons_zero, List.getElem_cons_succ]
                  refine wpAnyH_ready (rs := [1, 8]) (by kernel_rfl) (by simp) ?_
                  refine AllReadyH.cons rfl (fun K hK => ?_) ?_
                  · rw [if_pos (by rfl)]
                    refine wp_append_str _ _ 22 9 rfl (w.heap.size + 1) 5 i0 Tryz.underlying22 Tryz.underlying9 hi hz0 hz1 hz2 _ _ _ rfl (Own.below ho.out (by repeat (first | with_reducible exact Below.refl _ _ | with_reducible refine below_alloc' ?_ _ | with_reducible refine Lib.below_freeze ?_ (by dsimp only; omega) _ | with_reducible refine Below.drew ?_ | with_reducible refine below_then ?_ (by assumption)))) _ rfl (by show _ + 4 ≤ _; unfold maxLen; omega) (by show _ + 4 ≤ _; omega) (by (try simp only [size_drew, World.size_alloc]); omega) ?_
                    intro v2 w2 hown2 hgrow2
                    have ho2 : Hid (Own (w.heap.size + 1) w2 v2 (rowsR I k ++ [114, 111, 97, 100])) := own_app (cs := [114, 111, 97, 100]) (n := 4) rfl hown2
                    have hkp := Hid.mk ((Kp.refl (w.heap.size + 1) _).grown (Own.below ho.out (by repeat (first | with_reducible exact Below.refl _ _ | with_reducible refine below_alloc' ?_ _ | with_reducible refine Lib.below_freeze ?_ (by dsimp only; omega) _ | with_reducible refine Below.drew ?_ | with_reducible refine below_then ?_ (by assumption)))) hgrow2 (by (try simp only [size_drew, World.size_alloc]); omega))
                    have hk2 : Hid (Kp (w.heap.size + 1) wr w2) := (Kp.grown (by repeat (first | with_reducible exact Kp.refl _ _ | with_reducible refine Kp.alloc ?_ (by (try simp only [size_drew, World.size_alloc]); omega) _ | with_reducible refine Kp.drew ?_)) (Own.below ho.out (by repeat (first | with_reducible exact Below.refl _ _ | with_reducible refine below_alloc' ?_ _ | with_reducible refine Lib.below_freeze ?_ (by dsimp only; omega) _ | with_reducible refine Below.drew ?_ | with_reducible refine below_then ?_ (by assumption)))) hgrow2 (by (try simp only [size_drew, World.size_alloc]); omega))
                    have hbx2 := Kp.blk hkp.out (cs := #[.int .i64 (I.R k).a, .int .i64 (I.R k).b, .int .i64 (I.R k).t]) (t := 51) (fr := (0, 0)) (g := wr.heap.size) (by repeat (first | with_reducible exact blk_new _ _ | with_reducible refine blk_alloc ?_ _ | with_reducible refine blk_drew ?_)) (by decide)
                    have hs2 := hk2.out.1.size
                    clear hown2 hgrow2
                    refine hK.out _ _ ?_ (fun hHeld => ?_)
                    · (try dsimp only); first | (go_keep; done) | ((repeat' constructor) <;> first | exact (blk_cell hbx3 _).trans rfl | exact (blk_cell hbx2 _).trans rfl)
                    clear hK K
                    (try simp only [Act.put, List.setIfInBounds_toArray, List.set_cons_zero, List.set_cons_succ, List.getElem_toArray, List.getElem_cons_zero, List.getElem_cons_succ])
                    refine wpAnyH_ready (rs := [8]) (by kernel_rfl) (by simp) ?_
                    refine AllReadyH.cons rfl (fun K hK => ?_) ?_
                    · go_simp
                      refine hK.out _ _ ?_ (fun hHeld => ?_)
                      · (try dsimp only); first | (go_keep; done) | ((repeat' constructor) <;> first | exact (blk_cell hbx3 _).trans rfl | exact (blk_cell hbx2 _).trans rfl)
                      clear hK K
                      (try simp only [Act.put, List.setIfInBounds_toArray, List.set_cons_zero, List.set_cons_succ, List.getElem_toArray, List.getElem_cons_zero, List.getElem_cons_succ])
                      refine wpAnyH_ready (rs := [9]) (by kernel_rfl) (by simp) ?_
                      refine AllReadyH.cons rfl (fun K hK => ?_) ?_
                      · go_simp
                        refine (numbersI (w.heap.size + 1) (rowsR I k ++ [114, 111, 97, 100]) [(I.R k).a, (I.R k).b, (I.R k).t] _ _ _ 3 rfl (by first | exact ho2.out.alloc _ | exact ho2.out) (by (try simp only [size_drew, World.size_alloc]); omega) (HTr.out.on (by first | exact (hk2.out.alloc (by omega) _).1 | exact hk2.out.1)) (by first | exact blk_new _ _ | exact Kp.blk hkp.out (blk_drew (blk_new1 _ _ _)) (by decide) | exact Kp.blk hkp.out (blk_new1 _ _ _) (by decide)) (by have h0 := VBk.out.a; have h1 := VBk.out.b; have h2 := VBk.out.t; intro z hz; simp only [List.mem_cons, List.not_mem_nil, or_false] at hz; rcases hz with rfl | rfl | rfl <;> assumption) (by simp) (by simp only [List.length_append, List.length_cons, List.length_nil]; omega)).mono ?_
                        rintro e w3 ⟨v3, rfl, ho3, hk3⟩
                        have hbx3 := Kp.blk hk3 (by first | exact hbx2 | exact blk_alloc hbx2 _) (by decide)
                        have hk4 : Hid (Kp (w.heap.size + 1) wr w3) := by first | exact (hk2.out.alloc (by omega) _).trans hk3 | exact hk2.out.trans hk3
                        have ho4 := Hid.mk ho3
                        clear ho3 hk3
                        go_wp2_with fail
                        refine hK.out _ _ ?_ (fun hHeld => ?_)
                        · (try dsimp only); first | (go_keep; done) | ((repeat' constructor) <;> first | exact (blk_cell hbx3 _).trans rfl | exact (blk_cell hbx2 _).trans rfl)
                        clear hK K
                        (try simp only [Act.put, List.setIfInBounds_toArray, List.set_cons_zero, List.set_cons_succ, List.getElem_toArray, List.getElem_cons_zero, List.getElem_cons_succ])
                        refine wpAnyH_ready (rs := [10]) (by kernel_rfl) (by simp) ?_
                        refine AllReadyH.cons rfl (fun K hK => ?_) ?_
                        · go_simp
                          refine hK.out _ _ ?_ (fun hHeld => ?_)
                          · (try dsimp only); first | (go_keep; done) | ((repeat' constructor) <;> first | exact (blk_cell hbx3 _).trans rfl | exact (blk_cell hbx2 _).trans rfl)
                          clear hK K
                          (try simp only [Act.put, List.setIfInBounds_toArray, List.set_cons_zero, List.set_cons_succ, List.getElem_toArray, List.getElem_cons_zero, List.getElem_cons_succ])
                          refine wpAnyH_done (by kernel_rfl) ?_ _
                          go_wp2_with fail
                          go_meet
                          exact ⟨ho4, hk4, hbx3⟩
                        exact AllReadyH.nil
                      exact AllReadyH.nil
                    exact AllReadyH.nil
                  refine AllReadyH.cons rfl (fun K hK => ?_) ?_
                  · go_simp
                    refine hK.out _ _ ?_ (fun hHeld => ?_)
                    · (try dsimp only); first | (go_keep; done) | ((repeat' constructor) <;> first | exact (blk_cell hbx3 _).trans rfl | exact (blk_cell hbx2 _).trans rfl)
                    clear hK K
                    (try simp only [Act.put, List.setIfInBounds_toArray, List.set_cons_zero, List.set_cons_succ, List.getElem_toArray, List.getElem_cons_zero, List.getElem_cons_succ])
                    refine wpAnyH_ready (rs := [1]) (by kernel_rfl) (by simp) ?_
                    refine AllReadyH.cons rfl (fun K hK => ?_) ?_
                    · rw [if_pos (by rfl)]
                      refine wp_append_str _ _ 22 9 rfl (w.heap.size + 1) 5 i0 Tryz.underlying22 Tryz.underlying9 hi hz0 hz1 hz2 _ _ _ rfl (Own.below ho.out (by repeat (first | with_reducible exact Below.refl _ _ | with_reducible refine below_alloc' ?_ _ | with_reducible refine Lib.below_freeze ?_ (by dsimp only; omega) _ | with_reducible refine Below.drew ?_ | with_reducible refine below_then ?_ (by assumption)))) _ rfl (by show _ + 4 ≤ _; unfold maxLen; omega) (by show _ + 4 ≤ _; omega) (by (try simp only [size_drew, World.size_alloc]); omega) ?_
                      intro v2 w2 hown2 hgrow2
                      have ho2 : Hid (Own (w.heap.size + 1) w2 v2 (rowsR I k ++ [114, 111, 97, 100])) := own_app (cs := [114, 111, 97, 100]) (n := 4) rfl hown2
                      have hkp := Hid.mk ((Kp.refl (w.heap.size + 1) _).grown (Own.below ho.out (by repeat (first | with_reducible exact Below.refl _ _ | with_reducible refine below_alloc' ?_ _ | with_reducible refine Lib.below_freeze ?_ (by dsimp only; omega) _ | with_reducible refine Below.drew ?_ | with_reducible refine below_then ?_ (by assumption)))) hgrow2 (by (try simp only [size_drew, World.size_alloc]); omega))
                      have hk2 : Hid (Kp (w.heap.size + 1) wr w2) := (Kp.grown (by repeat (first | with_reducible exact Kp.refl _ _ | with_reducible refine Kp.alloc ?_ (by (try simp only [size_drew, World.size_alloc]); omega) _ | with_reducible refine Kp.drew ?_)) (Own.below ho.out (by repeat (first | with_reducible exact Below.refl _ _ | with_reducible refine below_alloc' ?_ _ | with_reducible refine Lib.below_freeze ?_ (by dsimp only; omega) _ | with_reducible refine Below.drew ?_ | with_reducible refine below_then ?_ (by assumption)))) hgrow2 (by (try simp only [size_drew, World.size_alloc]); omega))
                      have hbx2 := Kp.blk hkp.out (cs := #[.int .i64 (I.R k).a, .int .i64 (I.R k).b, .int .i64 (I.R k).t]) (t := 51) (fr := (0, 0)) (g := wr.heap.size) (by repeat (first | with_reducible exact blk_new _ _ | with_reducible refine blk_alloc ?_ _ | with_reducible refine blk_drew ?_)) (by decide)
                      have hs2 := hk2.out.1.size
                      clear hown2 hgrow2
                      refine hK.out _ _ ?_ (fun hHeld => ?_)
                      · (try dsimp only); first | (go_keep; done) | ((repeat' constructor) <;> first | exact (blk_cell hbx3 _).trans rfl | exact (blk_cell hbx2 _).trans rfl)
                      clear hK K
                      (try simp only [Act.put, List.setIfInBounds_toArray, List.set_cons_zero, List.set_cons_succ, List.getElem_toArray, List.getElem_cons_zero, List.getElem_cons_succ])
                      refine wpAnyH_ready (rs := [9]) (by kernel_rfl) (by simp) ?_
                      refine AllReadyH.cons rfl (fun K hK => ?_) ?_
                      · go_simp
                        refine (numbersI (w.heap.size + 1) (rowsR I k ++ [114, 111, 97, 100]) [(I.R k).a, (I.R k).b, (I.R k).t] _ _ _ 3 rfl (by first | exact ho2.out.alloc _ | exact ho2.out) (by (try simp only [size_drew, World.size_alloc]); omega) (HTr.out.on (by first | exact (hk2.out.alloc (by omega) _).1 | exact hk2.out.1)) (by first | exact blk_new _ _ | exact Kp.blk hkp.out (blk_drew (blk_new1 _ _ _)) (by decide) | exact Kp.blk hkp.out (blk_new1 _ _ _) (by decide)) (by have h0 := VBk.out.a; have h1 := VBk.out.b; have h2 := VBk.out.t; intro z hz; simp only [List.mem_cons, List.not_mem_nil, or_false] at hz; rcases hz with rfl | rfl | rfl <;> assumption) (by simp) (by simp only [List.length_append, List.length_cons, List.length_nil]; omega)).mono ?_
                        rintro e w3 ⟨v3, rfl, ho3, hk3⟩
                        have hbx3 := Kp.blk hk3 (by first | exact hbx2 | exact blk_alloc hbx2 _) (by decide)
                        have hk4 : Hid (Kp (w.heap.size + 1) wr w3) := by first | exact (hk2.out.alloc (by omega) _).trans hk3 | exact hk2.out.trans hk3
                        have ho4 := Hid.mk ho3
                        clear ho3 hk3
                        go_wp2_with fail
                        refine hK.out _ _ ?_ (fun hHeld => ?_)
                        · (try dsimp only); first | (go_keep; done) | ((repeat' constructor) <;> first | exact (blk_cell hbx3 _).trans rfl | exact (blk_cell hbx2 _).trans rfl)
                        clear hK K
                        (try simp only [Act.put, List.setIfInBounds_toArray, List.set_cons_zero, List.set_cons_succ, List.getElem_toArray, List.getElem_cons_zero, List.getElem_cons_succ])
                        refine wpAnyH_ready (rs := [10]) (by kernel_rfl) (by simp) ?_
                        refine AllReadyH.cons rfl (fun K hK => ?_) ?_
                        · go_simp
                          refine hK.out _ _ ?_ (fun hHeld => ?_)
                          · (try dsimp only); first | (go_keep; done) | ((repeat' constructor) <;> first | exact (blk_cell hbx3 _).trans rfl | exact (blk_cell hbx2 _).trans rfl)
                          clear hK K
                          (try simp only [Act.put, List.setIfInBounds_toArray, List.set_cons_zero, List.set_cons_succ, List.getElem_toArray, List.getElem_cons_zero, List.getElem_cons_succ])
                          refine wpAnyH_done (by kernel_rfl) ?_ _
                          go_wp2_with fail
                          go_meet
                          exact ⟨ho4, hk4, hbx3⟩
                        exact AllReadyH.nil
                      exact AllReadyH.nil
                    exact AllReadyH.nil
                  exact AllReadyH.nil
                case rest =>
                  obtain ⟨ho1, hk1, hbx⟩ := hcut
                  clear e0 e1 e2
                  have hs1 := hk1.out.1.size
                  obtain ⟨T, HO4, hTl, HTe⟩ : ∃ T, Hid (Own (w.heap.size + 1) wc u3 T) ∧ T.length ≤ 10000000 ∧ Hid (rowsR I (k + 1) = T ++ [10]) := ⟨_, ho1, (by simp only [List.length_append, List.length_cons, List.length_nil]; omega), by unfold Hid; rw [rowsR_succ, line_rd]; simp only [List.append_assoc]⟩
                  have HK4 := Hid.mk hk1.out
                  have hs5 := HK4.out.1.size
                  go_wp2_with (at_builtin; refine wpList_append_own _ rfl _ _ 22 rfl (w.heap.size + 1) 5 i0 (.int .u8 0) 1 1 Tryz.underlying22 hi hz0 hz1 hz2 rfl (by decide) _ _ _ rfl (HO4.out.alloc _) ⟨wc.heap.size, 0, none⟩ 1 1 [Value.int .u8 10] rfl rfl (by intro j u' hj; match j, hj with | 0, hj => simp at hj; subst hj; simp [Addr.add]) (by intro u' hu'; simp at hu'; subst hu'; rfl) (by unfold maxLen; omega) (by omega) (by simp; omega) ?_)
                  intro v5 w5 hown5 hgrow5 _
                  have HK5 := Hid.mk ((HK4.out.alloc (by omega) _).grown (HO4.out.alloc _) hgrow5 (by simp; omega))
                  have HO5 : Hid (Own (w.heap.size + 1) w5 v5 (rowsR I (k + 1))) := by rw [HTe.out]; exact own_snoc rfl hown5
                  have HB5 : Hid (Below w.heap.size w w5) := hb.out.trans (HK5.out.1.mono (Nat.le_succ _))
                  have HX5 := Hid.mk (HK5.out.blk hx.out (by decide))
                  clear hown5 hgrow5
                  go_wp2
                  exact ⟨⟨k + 1, by omega, by go_num, HO5, HB5, HX5⟩, by simp [intOf]; omega⟩

              · have hkn : k = I.nR := by omega
                subst hkn
                go_wp2
                go_ret
                exact ⟨_, rfl, by rw [HA.out]; exact Joins.ownsRow_le ho.out (Nat.le_succ _), hb.out⟩
end Go.Proofs.YtefkdpppcjlflaaGreatDoor.Print
