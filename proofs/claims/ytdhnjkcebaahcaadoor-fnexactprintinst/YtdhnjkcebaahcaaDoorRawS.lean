import Derived.Test.YtdhnjkcebaahcaaDoorFieldsS
import Derived.Deep.CutRange
namespace Go.Proofs.YtdhnjkcebaahcaaDoor.Print
open Go Go.RowKit Go.Proofs.YtdhnjkcebaahcaaDoor.Mem Go.Proofs.YtdhnjkcebaahcaaDoor.Valid
set_option linter.unusedVariables false
set_option linter.unusedSimpArgs false
attribute [local go_sem ↓] Go.wp_at_zero Go.wp_at_succ

theorem infoBS : (Tryd.prog.info? 28).map (fun i => (i.zero, i.size, i.bytes)) = some (some (.slice none 0 0), 1, 24) := by kernel_rfl

set_option maxHeartbeats 12800000 in
set_option maxRecDepth 100000 in
theorem rawS (a1 a2 a3 : Option Addr) (c1 c2 c3 : Nat) (I : In) (w : World) (h : InAt w a1 a2 a3 I) (hg : Good I) :
    Calls Tryd.prog 32 #[.agg #[.slice a1 I.nV c1, .slice a2 I.nQ c2, .slice a3 I.nR c3]] w fun e w' => ∃ v, e = .returned v ∧ Own w.heap.size w' v (text I) ∧ Below w.heap.size w w' := by
  have H := Hid.mk h
  have G := Hid.mk hg
  have n1 := hg.nV
  have n2 := hg.nQ
  have n3 := hg.nR
  clear h hg
  obtain ⟨i0, hi, hz0, hz1, hz2⟩ := info_parts infoB
  obtain ⟨j0, hj, hy0, hy1, hy2⟩ := info_parts infoBS
  have k1 := fun (w : World) (C : Array Value) (n c : Nat) => run_conv (P := Tryd.prog) _ 28 5 _ C (0, 0) n c Tryd.underlying28 Tryd.underlying5 (blk_new w _)
  have k2 := fun (w : World) (o : Obj) (C : Array Value) (n c : Nat) => run_conv (P := Tryd.prog) _ 28 5 _ C (0, 0) n c Tryd.underlying28 Tryd.underlying5 (blk_new1 w _ o)
  have k3 := fun (w : World) (o : Obj) (C : Array Value) (n c : Nat) => run_conv (P := Tryd.prog) ((w.alloc o).alloc (.cells C 5)).drew 28 5 _ C (0, 0) n c Tryd.underlying28 Tryd.underlying5 (blk_new1 w _ o)
  have k4 := fun (w : World) (C : Array Value) (n c : Nat) => run_conv (P := Tryd.prog) (w.alloc (.cells C 5)).drew 28 5 _ C (0, 0) n c Tryd.underlying28 Tryd.underlying5 (blk_new w _)
  have kd := Hid.mk (fun (w : World) (g : Nat) (C : Array Value) (fr : Nat × Nat) (n c : Nat) (hb : w.heap[g]? = some (.cells C 5 fr)) => run_conv (P := Tryd.prog) w 28 5 g C fr n c Tryd.underlying28 Tryd.underlying5 hb)
  go_enter Tryd.func32, Tryd.ntmps32
  go_wp2
  go_loopw [3, 4] (fun v i wr => ∃ k : Nat, k ≤ I.nV ∧ i = .int .i64 k ∧ Hid (Own (w.heap.size + 1) wr v (rowsV I k)) ∧ Hid (Below w.heap.size w wr) ∧ Hid (wr.heap[w.heap.size]? = some (.cells #[.slice a1 I.nV c1, .slice a2 I.nQ c2, .slice a3 I.nR c3] 34))) (fun _ i _ => I.nV - (intOf i).toNat)
  case atStart => exact ⟨0, Nat.zero_le _, rfl, own_empty1 w _, below_alloc' ((Below.refl _ _).alloc (Nat.le_refl _) _) _, blk_alloc (blk_new _ _) _⟩
  case round =>
    skip
    obtain ⟨k, hk, rfl, ho, hb, hx⟩ := hrel
    have hl := rowsV_len G.out hk
    have hwz := blk_lt hx.out
    obtain ⟨a, ca, hv⟩ := Own.shape ho.out
    rw [hv] at ho ⊢
    clear hv
    have x0 := blk_cell hx.out 0
    simp only [List.getElem?_toArray, List.getElem?_cons_zero] at x0
    by_cases hlt : k < I.nV
    · rcases H.out.v with hs | ⟨b, off, rfl, hs⟩
      · omega
      obtain ⟨e0, e1, e2, e3, e4, e5, e6⟩ := Veh.at (rangeAt_below (hs k hlt) hb.out)
      clear hs
      have VBk := Hid.mk (G.out.v k hlt)
      have hb0 := VBk.out.a
      have hb1' := VBk.out.b
      go_upto_region 6 with fail
      go_cut [6] from 13 to 42 (fun s6 wx => ∃ g v1 v2 v3, s6 = .slice (some ⟨g, 0, none⟩) 3 3 ∧ Hid (wx.heap[g]? = some (.cells #[v1, v2, v3] 28)) ∧ Hid (FVs 0 wx [v1, v2, v3] [[118, 101, 104, 105, 99, 108, 101], Lib.itoa (I.V k).a, tagText (I.V k).b]) ∧ Hid (Below wr.heap.size wr wx) ∧ Hid (wx.heap[wr.heap.size]? = some (.cells #[.int .i64 (I.V k).a, .int .i64 (I.V k).b, .int .i64 (I.V k).x, .int .i64 (I.V k).y, .int .i64 (I.V k).o, .int .i64 (I.V k).c, .int .i64 (I.V k).h] 67)))
      case first =>
        clear x0 e0 e1 e2 e3 e4 e5 e6 ho
        refine wp_region_held_drew (S := (fun w' => w'.cell? ⟨wr.heap.size, 0, none⟩ = some (.int .i64 (I.V k).a) ∧ w'.cell? ⟨wr.heap.size, 1, none⟩ = some (.int .i64 (I.V k).b))) (by kernel_rfl) ?_ (fun hHeld => ?_)
        · go_keep
        refine wpAnyH_take (i := 2) (v := ?_) rfl (by kernel_rfl) (by kernel_rfl) (by kernel_rfl) (fun _ _ _ h => h) (Or.inl ⟨by rfl, ?_⟩) (by assumption) ?_
        rotate_left
        · intro w hSw; (try dsimp only at hSw); go_simp; (try with_reducible rfl)
        rotate_left
        simp only [Act.put, List.setIfInBounds_toArray, List.set_cons_zero, List.set_cons_succ]
        refine wpAnyH_take (i := 3) (v := ?_) rfl (by kernel_rfl) (by kernel_rfl) (by kernel_rfl) (fun _ _ _ h => h) (Or.inl ⟨by rfl, ?_⟩) (by assumption) ?_
        rotate_left
        · intro w hSw; (try dsimp only at hSw); go_simp; (try with_reducible rfl)
        rotate_left
        simp only [Act.put, List.setIfInBounds_toArray, List.set_cons_zero, List.set_cons_succ]
        refine wpAnyH_take (i := 5) (v := ?_) rfl (by kernel_rfl) (by kernel_rfl) (by kernel_rfl) (fun _ _ _ h => h) (Or.inl ⟨by rfl, ?_⟩) (by assumption) ?_
        rotate_left
        · intro w hSw; (try dsimp only at hSw); go_simp; (try with_reducible rfl)
        rotate_left
        simp only [Act.put, List.setIfInBounds_toArray, List.set_cons_zero, List.set_cons_succ]
        refine wpAnyH_take (i := 6) (v := ?_) rfl (by kernel_rfl) (by kernel_rfl) (by kernel_rfl) (fun _ _ _ h => h) (Or.inl ⟨by rfl, ?_⟩) (by assumption) ?_
        rotate_left
        · intro w hSw; (try dsimp only at hSw); go_simp; (try with_reducible rfl)
        rotate_left
        simp only [Act.put, List.setIfInBounds_toArray, List.set_cons_zero, List.set_cons_succ]
        refine wpAnyH_ready (rs := [0, 4]) (by kernel_rfl) (by simp) ?_
        refine AllReadyH.cons rfl (fun K hK => ?_) ?_
        · go_simp
          refine hK.out _ _ ?_ (fun hHeld => ?_)
          · (try dsimp only); first | (go_keep; done) | ((repeat' constructor) <;> first | exact cell_keep hb1 (by first | assumption | (simp [*]; done)) | exact cell_freeze (by first | assumption | (simp [*]; done)) _ _)
          clear hK K
          (try simp only [Act.put, List.setIfInBounds_toArray, List.set_cons_zero, List.set_cons_succ])
          refine wpAnyH_ready (rs := [1, 4]) (by kernel_rfl) (by simp) ?_
          refine AllReadyH.cons rfl (fun K hK => ?_) ?_
          · go_simp
            refine hK.out _ _ ?_ (fun hHeld => ?_)
            · (try dsimp only); first | (go_keep; done) | ((repeat' constructor) <;> first | exact cell_keep hb1 (by first | assumption | (simp [*]; done)) | exact cell_freeze (by first | assumption | (simp [*]; done)) _ _)
            clear hK K
            (try simp only [Act.put, List.setIfInBounds_toArray, List.set_cons_zero, List.set_cons_succ])
            refine wpAnyH_ready (rs := [4]) (by kernel_rfl) (by simp) ?_
            refine AllReadyH.cons rfl (fun K hK => ?_) ?_
            · go_simp
              refine (decimalR _ _ (by omega) (by omega)).mono ?_
              rintro e w1 ⟨g1, o1, n1, c1, rfl, hg1, hr1, hb1⟩
              have hzz := hb1.size
              (try simp only [size_freeze, size_drew, World.size_alloc] at hzz)
              (first | (have hq := blk_below hq hb1; have hkc := kd.out _ _ _ _ 7 7 hq) | (have hq := lit_atd #[.int .u8 118, .int .u8 101, .int .u8 104, .int .u8 105, .int .u8 99, .int .u8 108, .int .u8 101] 5 hb1; (try simp only [World.size_alloc] at hq); have hkc := kd.out _ _ _ _ 7 7 hq) | (have hq := lit_at #[.int .u8 118, .int .u8 101, .int .u8 104, .int .u8 105, .int .u8 99, .int .u8 108, .int .u8 101] 5 hb1; (try simp only [World.size_alloc] at hq); have hkc := kd.out _ _ _ _ 7 7 hq) | skip)
              go_wp2_with fail
              refine hK.out _ _ ?_ (fun hHeld => ?_)
              · (try dsimp only); first | (go_keep; done) | ((repeat' constructor) <;> first | exact cell_keep hb1 (by first | assumption | (simp [*]; done)) | exact cell_freeze (by first | assumption | (simp [*]; done)) _ _)
              clear hK K
              (try simp only [Act.put, List.setIfInBounds_toArray, List.set_cons_zero, List.set_cons_succ])
              refine wpAnyH_ready (rs := [7]) (by kernel_rfl) (by simp) ?_
              refine AllReadyH.cons rfl (fun K hK => ?_) ?_
              · go_simp
                refine (tagTextS _ _ (by omega) (by omega)).mono ?_
                rintro e w1 ⟨g1, o1, n1, c1, rfl, hg1, hr1, hb1⟩
                have hzz := hb1.size
                (try simp only [size_freeze, size_drew, World.size_alloc] at hzz)
                (first | (have hq := blk_below hq hb1; have hkc := kd.out _ _ _ _ 7 7 hq) | (have hq := lit_atd #[.int .u8 118, .int .u8 101, .int .u8 104, .int .u8 105, .int .u8 99, .int .u8 108, .int .u8 101] 5 hb1; (try simp only [World.size_alloc] at hq); have hkc := kd.out _ _ _ _ 7 7 hq) | (have hq := lit_at #[.int .u8 118, .int .u8 101, .int .u8 104, .int .u8 105, .int .u8 99, .int .u8 108, .int .u8 101] 5 hb1; (try simp only [World.size_alloc] at hq); have hkc := kd.out _ _ _ _ 7 7 hq) | skip)
                go_wp2_with fail
                refine hK.out _ _ ?_ (fun hHeld => ?_)
                · (try dsimp only); first | (go_keep; done) | ((repeat' constructor) <;> first | exact cell_keep hb1 (by first | assumption | (simp [*]; done)) | exact cell_freeze (by first | assumption | (simp [*]; done)) _ _)
                clear hK K
                (try simp only [Act.put, List.setIfInBounds_toArray, List.set_cons_zero, List.set_cons_succ])
                refine wpAnyH_ready (rs := [8]) (by kernel_rfl) (by simp) ?_
                refine AllReadyH.cons rfl (fun K hK => ?_) ?_
                · go_simp
                  refine hK.out _ _ ?_ (fun hHeld => ?_)
                  · (try dsimp only); first | (go_keep; done) | ((repeat' constructor) <;> first | exact cell_keep hb1 (by first | assumption | (simp [*]; done)) | exact cell_freeze (by first | assumption | (simp [*]; done)) _ _)
                  clear hK K
                  (try simp only [Act.put, List.setIfInBounds_toArray, List.set_cons_zero, List.set_cons_succ])
                  refine wpAnyH_ready (rs := [9]) (by kernel_rfl) (by simp) ?_
                  refine AllReadyH.cons rfl (fun K hK => ?_) ?_
                  · go_simp
                    refine hK.out _ _ ?_ (fun hHeld => ?_)
                    · (try dsimp only); first | (go_keep; done) | ((repeat' constructor) <;> first | exact cell_keep hb1 (by first | assumption | (simp [*]; done)) | exact cell_freeze (by first | assumption | (simp [*]; done)) _ _)
                    clear hK K
                    (try simp only [Act.put, List.setIfInBounds_toArray, List.set_cons_zero, List.set_cons_succ])
                    refine wpAnyH_done (by kernel_rfl) ?_ _
                    go_wp2_with fail
                    go_meet
                    refine ⟨_, _, _, _, rfl, blk_new _ _, ⟨⟨_, _, _, _, rfl, Nat.zero_le _, ?_⟩, ⟨_, _, _, _, rfl, Nat.zero_le _, ?_⟩, ⟨_, _, _, _, rfl, Nat.zero_le _, ?_⟩, trivial⟩, ?_, ?_⟩
                    · repeat (first | ((with_reducible refine Rb.newn ?_ ?_) <;> rfl) | ((with_reducible refine Rb.newn1 ?_ ?_) <;> rfl) | with_reducible refine Rb.alloc ?_ _ | with_reducible refine Rb.freeze ?_ _ _ | with_reducible refine Rb.drew ?_ | ((with_reducible refine Rb.blkn (by assumption) ?_ ?_) <;> rfl) | with_reducible refine Rb.below ?_ (by assumption))
                    · repeat (first | with_reducible assumption | with_reducible refine Rb.alloc ?_ _ | with_reducible refine Rb.freeze ?_ _ _ | with_reducible refine Rb.drew ?_ | with_reducible refine Rb.below ?_ (by assumption))
                    · repeat (first | with_reducible assumption | with_reducible refine Rb.alloc ?_ _ | with_reducible refine Rb.freeze ?_ _ _ | with_reducible refine Rb.drew ?_ | with_reducible refine Rb.below ?_ (by assumption))
                    · unfold Hid; repeat (first | with_reducible exact Below.refl _ _ | with_reducible refine below_alloc' ?_ _ | with_reducible refine Lib.below_freeze ?_ (by dsimp only; omega) _ | with_reducible refine Below.drew ?_ | with_reducible refine below_then ?_ (by assumption))
                    · unfold Hid; repeat (first | with_reducible exact blk_new _ _ | with_reducible refine blk_alloc ?_ _ | with_reducible refine blk_freeze_other ?_ _ _ (by dsimp only; omega) | with_reducible refine blk_drew ?_ | with_reducible refine blk_below ?_ (by assumption))
                  exact AllReadyH.nil
                exact AllReadyH.nil
              exact AllReadyH.nil
            exact AllReadyH.nil
          refine AllReadyH.cons rfl (fun K hK => ?_) ?_
          · go_simp
            refine (decimalR _ _ (by omega) (by omega)).mono ?_
            rintro e w1 ⟨g1, o1, n1, c1, rfl, hg1, hr1, hb1⟩
            have hzz := hb1.size
            (try simp only [size_freeze, size_drew, World.size_alloc] at hzz)
            (first | (have hq := blk_below hq hb1; have hkc := kd.out _ _ _ _ 7 7 hq) | (have hq := lit_atd #[.int .u8 118, .int .u8 101, .int .u8 104, .int .u8 105, .int .u8 99, .int .u8 108, .int .u8 101] 5 hb1; (try simp only [World.size_alloc] at hq); have hkc := kd.out _ _ _ _ 7 7 hq) | (have hq := lit_at #[.int .u8 118, .int .u8 101, .int .u8 104, .int .u8 105, .int .u8 99, .int .u8 108, .int .u8 101] 5 hb1; (try simp only [World.size_alloc] at hq); have hkc := kd.out _ _ _ _ 7 7 hq) | skip)
            go_wp2_with fail
            refine hK.out _ _ ?_ (fun hHeld => ?_)
            · (try dsimp only); first | (go_keep; done) | ((repeat' constructor) <;> first | exact cell_keep hb1 (by first | assumption | (simp [*]; done)) | exact cell_freeze (by first | assumption | (simp [*]; done)) _ _)
            clear hK K
            (try simp only [Act.put, List.setIfInBounds_toArray, List.set_cons_zero, List.set_cons_succ])
            refine wpAnyH_ready (rs := [1, 7]) (by kernel_rfl) (by simp) ?_
            refine AllReadyH.cons rfl (fun K hK => ?_) ?_
            · go_simp
              refine hK.out _ _ ?_ (fun hHeld => ?_)
              · (try dsimp only); first | (go_keep; done) | ((repeat' constructor) <;> first | exact cell_keep hb1 (by first | assumption | (simp [*]; done)) | exact cell_freeze (by first | assumption | (simp [*]; done)) _ _)
              clear hK K
              (try simp only [Act.put, List.setIfInBounds_toArray, List.set_cons_zero, List.set_cons_succ])
              refine wpAnyH_ready (rs := [7]) (by kernel_rfl) (by simp) ?_
              refine AllReadyH.cons rfl (fun K hK => ?_) ?_
              · go_simp
                refine (tagTextS _ _ (by omega) (by omega)).mono ?_
                rintro e w1 ⟨g1, o1, n1, c1, rfl, hg1, hr1, hb1⟩
                have hzz := hb1.size
                (try simp only [size_freeze, size_drew, World.size_alloc] at hzz)
                (first | (have hq := blk_below hq hb1; have hkc := kd.out _ _ _ _ 7 7 hq) | (have hq := lit_atd #[.int .u8 118, .int .u8 101, .int .u8 104, .int .u8 105, .int .u8 99, .int .u8 108, .int .u8 101] 5 hb1; (try simp only [World.size_alloc] at hq); have hkc := kd.out _ _ _ _ 7 7 hq) | (have hq := lit_at #[.int .u8 118, .int .u8 101, .int .u8 104, .int .u8 105, .int .u8 99, .int .u8 108, .int .u8 101] 5 hb1; (try simp only [World.size_alloc] at hq); have hkc := kd.out _ _ _ _ 7 7 hq) | skip)
                go_wp2_with fail
                refine hK.out _ _ ?_ (fun hHeld => ?_)
                · (try dsimp only); first | (go_keep; done) | ((repeat' constructor) <;> first | exact cell_keep hb1 (by first | assumption | (simp [*]; done)) | exact cell_freeze (by first | assumption | (simp [*]; done)) _ _)
                clear hK K
                (try simp only [Act.put, List.setIfInBounds_toArray, List.set_cons_zero, List.set_cons_succ])
                refine wpAnyH_ready (rs := [8]) (by kernel_rfl) (by simp) ?_
                refine AllReadyH.cons rfl (fun K hK => ?_) ?_
                · go_simp
                  refine hK.out _ _ ?_ (fun hHeld => ?_)
                  · (try dsimp only); first | (go_keep; done) | ((repeat' constructor) <;> first | exact cell_keep hb1 (by first | assumption | (simp [*]; done)) | exact cell_freeze (by first | assumption | (simp [*]; done)) _ _)
                  clear hK K
                  (try simp only [Act.put, List.setIfInBounds_toArray, List.set_cons_zero, List.set_cons_succ])
                  refine wpAnyH_ready (rs := [9]) (by kernel_rfl) (by simp) ?_
                  refine AllReadyH.cons rfl (fun K hK => ?_) ?_
                  · go_simp
                    refine hK.out _ _ ?_ (fun hHeld => ?_)
                    · (try dsimp only); first | (go_keep; done) | ((repeat' constructor) <;> first | exact cell_keep hb1 (by first | assumption | (simp [*]; done)) | exact cell_freeze (by first | assumption | (simp [*]; done)) _ _)
                    clear hK K
                    (try simp only [Act.put, List.setIfInBounds_toArray, List.set_cons_zero, List.set_cons_succ])
                    refine wpAnyH_done (by kernel_rfl) ?_ _
                    go_wp2_with fail
                    go_meet
                    refine ⟨_, _, _, _, rfl, blk_new _ _, ⟨⟨_, _, _, _, rfl, Nat.zero_le _, ?_⟩, ⟨_, _, _, _, rfl, Nat.zero_le _, ?_⟩, ⟨_, _, _, _, rfl, Nat.zero_le _, ?_⟩, trivial⟩, ?_, ?_⟩
                    · repeat (first | ((with_reducible refine Rb.newn ?_ ?_) <;> rfl) | ((with_reducible refine Rb.newn1 ?_ ?_) <;> rfl) | with_reducible refine Rb.alloc ?_ _ | with_reducible refine Rb.freeze ?_ _ _ | with_reducible refine Rb.drew ?_ | ((with_reducible refine Rb.blkn (by assumption) ?_ ?_) <;> rfl) | with_reducible refine Rb.below ?_ (by assumption))
                    · repeat (first | with_reducible assumption | with_reducible refine Rb.alloc ?_ _ | with_reducible refine Rb.freeze ?_ _ _ | with_reducible refine Rb.drew ?_ | with_reducible refine Rb.below ?_ (by assumption))
                    · repeat (first | with_reducible assumption | with_reducible refine Rb.alloc ?_ _ | with_reducible refine Rb.freeze ?_ _ _ | with_reducible refine Rb.drew ?_ | with_reducible refine Rb.below ?_ (by assumption))
                    · unfold Hid; repeat (first | with_reducible exact Below.refl _ _ | with_reducible refine below_alloc' ?_ _ | with_reducible refine Lib.below_freeze ?_ (by dsimp only; omega) _ | with_reducible refine Below.drew ?_ | with_reducible refine below_then ?_ (by assumption))
                    · unfold Hid; repeat (first | with_reducible exact blk_new _ _ | with_reducible refine blk_alloc ?_ _ | with_reducible refine blk_freeze_other ?_ _ _ (by dsimp only; omega) | with_reducible refine blk_drew ?_ | with_reducible refine blk_below ?_ (by assumption))
                  exact AllReadyH.nil
                exact AllReadyH.nil
              exact AllReadyH.nil
            refine AllReadyH.cons rfl (fun K hK => ?_) ?_
            · go_simp
              refine (tagTextS _ _ (by omega) (by omega)).mono ?_
              rintro e w1 ⟨g1, o1, n1, c1, rfl, hg1, hr1, hb1⟩
              have hzz := hb1.size
              (try simp only [size_freeze, size_drew, World.size_alloc] at hzz)
              (first | (have hq := blk_below hq hb1; have hkc := kd.out _ _ _ _ 7 7 hq) | (have hq := lit_atd #[.int .u8 118, .int .u8 101, .int .u8 104, .int .u8 105, .int .u8 99, .int .u8 108, .int .u8 101] 5 hb1; (try simp only [World.size_alloc] at hq); have hkc := kd.out _ _ _ _ 7 7 hq) | (have hq := lit_at #[.int .u8 118, .int .u8 101, .int .u8 104, .int .u8 105, .int .u8 99, .int .u8 108, .int .u8 101] 5 hb1; (try simp only [World.size_alloc] at hq); have hkc := kd.out _ _ _ _ 7 7 hq) | skip)
              go_wp2_with fail
              refine hK.out _ _ ?_ (fun hHeld => ?_)
              · (try dsimp only); first | (go_keep; done) | ((repeat' constructor) <;> first | exact cell_keep hb1 (by first | assumption | (simp [*]; done)) | exact cell_freeze (by first | assumption | (simp [*]; done)) _ _)
              clear hK K
              (try simp only [Act.put, List.setIfInBounds_toArray, List.set_cons_zero, List.set_cons_succ])
              refine wpAnyH_ready (rs := [1]) (by kernel_rfl) (by simp) ?_
              refine AllReadyH.cons rfl (fun K hK => ?_) ?_
              · go_simp
                refine hK.out _ _ ?_ (fun hHeld => ?_)
                · (try dsimp only); first | (go_keep; done) | ((repeat' constructor) <;> first | exact cell_keep hb1 (by first | assumption | (simp [*]; done)) | exact cell_freeze (by first | assumption | (simp [*]; done)) _ _)
                clear hK K
                (try simp only [Act.put, List.setIfInBounds_toArray, List.set_cons_zero, List.set_cons_succ])
                refine wpAnyH_ready (rs := [8]) (by kernel_rfl) (by simp) ?_
                refine AllReadyH.cons rfl (fun K hK => ?_) ?_
                · go_simp
                  refine hK.out _ _ ?_ (fun hHeld => ?_)
                  · (try dsimp only); first | (go_keep; done) | ((repeat' constructor) <;> first | exact cell_keep hb1 (by first | assumption | (simp [*]; done)) | exact cell_freeze (by first | assumption | (simp [*]; done)) _ _)
                  clear hK K
                  (try simp only [Act.put, List.setIfInBounds_toArray, List.set_cons_zero, List.set_cons_succ])
                  refine wpAnyH_ready (rs := [9]) (by kernel_rfl) (by simp) ?_
                  refine AllReadyH.cons rfl (fun K hK => ?_) ?_
                  · go_simp
                    refine hK.out _ _ ?_ (fun hHeld => ?_)
                    · (try dsimp only); first | (go_keep; done) | ((repeat' constructor) <;> first | exact cell_keep hb1 (by first | assumption | (simp [*]; done)) | exact cell_freeze (by first | assumption | (simp [*]; done)) _ _)
                    clear hK K
                    (try simp only [Act.put, List.setIfInBounds_toArray, List.set_cons_zero, List.set_cons_succ])
                    refine wpAnyH_done (by kernel_rfl) ?_ _
                    go_wp2_with fail
                    go_meet
                    refine ⟨_, _, _, _, rfl, blk_new _ _, ⟨⟨_, _, _, _, rfl, Nat.zero_le _, ?_⟩, ⟨_, _, _, _, rfl, Nat.zero_le _, ?_⟩, ⟨_, _, _, _, rfl, Nat.zero_le _, ?_⟩, trivial⟩, ?_, ?_⟩
                    · repeat (first | ((with_reducible refine Rb.newn ?_ ?_) <;> rfl) | ((with_reducible refine Rb.newn1 ?_ ?_) <;> rfl) | with_reducible refine Rb.alloc ?_ _ | with_reducible refine Rb.freeze ?_ _ _ | with_reducible refine Rb.drew ?_ | ((with_reducible refine Rb.blkn (by assumption) ?_ ?_) <;> rfl) | with_reducible refine Rb.below ?_ (by assumption))
                    · repeat (first | with_reducible assumption | with_reducible refine Rb.alloc ?_ _ | with_reducible refine Rb.freeze ?_ _ _ | with_reducible refine Rb.drew ?_ | with_reducible refine Rb.below ?_ (by assumption))
                    · repeat (first | with_reducible assumption | with_reducible refine Rb.alloc ?_ _ | with_reducible refine Rb.freeze ?_ _ _ | with_reducible refine Rb.drew ?_ | with_reducible refine Rb.below ?_ (by assumption))
                    · unfold Hid; repeat (first | with_reducible exact Below.refl _ _ | with_reducible refine below_alloc' ?_ _ | with_reducible refine Lib.below_freeze ?_ (by dsimp only; omega) _ | with_reducible refine Below.drew ?_ | with_reducible refine below_then ?_ (by assumption))
                    · unfold Hid; repeat (first | with_reducible exact blk_new _ _ | with_reducible refine blk_alloc ?_ _ | with_reducible refine blk_freeze_other ?_ _ _ (by dsimp only; omega) | with_reducible refine blk_drew ?_ | with_reducible refine blk_below ?_ (by assumption))
                  exact AllReadyH.nil
                exact AllReadyH.nil
              exact AllReadyH.nil
            exact AllReadyH.nil
          exact AllReadyH.nil
        refine AllReadyH.cons rfl (fun K hK => ?_) ?_
        · go_simp
          refine (decimalR _ _ (by omega) (by omega)).mono ?_
          rintro e w1 ⟨g1, o1, n1, c1, rfl, hg1, hr1, hb1⟩
          have hzz := hb1.size
          (try simp only [size_freeze, size_drew, World.size_alloc] at hzz)
          (first | (have hq := blk_below hq hb1; have hkc := kd.out _ _ _ _ 7 7 hq) | (have hq := lit_atd #[.int .u8 118, .int .u8 101, .int .u8 104, .int .u8 105, .int .u8 99, .int .u8 108, .int .u8 101] 5 hb1; (try simp only [World.size_alloc] at hq); have hkc := kd.out _ _ _ _ 7 7 hq) | (have hq := lit_at #[.int .u8 118, .int .u8 101, .int .u8 104, .int .u8 105, .int .u8 99, .int .u8 108, .int .u8 101] 5 hb1; (try simp only [World.size_alloc] at hq); have hkc := kd.out _ _ _ _ 7 7 hq) | skip)
          go_wp2_with fail
          refine hK.out _ _ ?_ (fun hHeld => ?_)
          · (try dsimp only); first | (go_keep; done) | ((repeat' constructor) <;> first | exact cell_keep hb1 (by first | assumption | (simp [*]; done)) | exact cell_freeze (by first | assumption | (simp [*]; done)) _ _)
          clear hK K
          (try simp only [Act.put, List.setIfInBounds_toArray, List.set_cons_zero, List.set_cons_succ])
          refine wpAnyH_ready (rs := [0, 7]) (by kernel_rfl) (by simp) ?_
          refine AllReadyH.cons rfl (fun K hK => ?_) ?_
          · go_simp
            refine hK.out _ _ ?_ (fun hHeld => ?_)
            · (try dsimp only); first | (go_keep; done) | ((repeat' constructor) <;> first | exact cell_keep hb1 (by first | assumption | (simp [*]; done)) | exact cell_freeze (by first | assumption | (simp [*]; done)) _ _)
            clear hK K
            (try simp only [Act.put, List.setIfInBounds_toArray, List.set_cons_zero, List.set_cons_succ])
            refine wpAnyH_ready (rs := [1, 7]) (by kernel_rfl) (by simp) ?_
            refine AllReadyH.cons rfl (fun K hK => ?_) ?_
            · go_simp
              refine hK.out _ _ ?_ (fun hHeld => ?_)
              · (try dsimp only); first | (go_keep; done) | ((repeat' constructor) <;> first | exact cell_keep hb1 (by first | assumption | (simp [*]; done)) | exact cell_freeze (by first | assumption | (simp [*]; done)) _ _)
              clear hK K
              (try simp only [Act.put, List.setIfInBounds_toArray, List.set_cons_zero, List.set_cons_succ])
              refine wpAnyH_ready (rs := [7]) (by kernel_rfl) (by simp) ?_
              refine AllReadyH.cons rfl (fun K hK => ?_) ?_
              · go_simp
                refine (tagTextS _ _ (by omega) (by omega)).mono ?_
                rintro e w1 ⟨g1, o1, n1, c1, rfl, hg1, hr1, hb1⟩
                have hzz := hb1.size
                (try simp only [size_freeze, size_drew, World.size_alloc] at hzz)
                (first | (have hq := blk_below hq hb1; have hkc := kd.out _ _ _ _ 7 7 hq) | (have hq := lit_atd #[.int .u8 118, .int .u8 101, .int .u8 104, .int .u8 105, .int .u8 99, .int .u8 108, .int .u8 101] 5 hb1; (try simp only [World.size_alloc] at hq); have hkc := kd.out _ _ _ _ 7 7 hq) | (have hq := lit_at #[.int .u8 118, .int .u8 101, .int .u8 104, .int .u8 105, .int .u8 99, .int .u8 108, .int .u8 101] 5 hb1; (try simp only [World.size_alloc] at hq); have hkc := kd.out _ _ _ _ 7 7 hq) | skip)
                go_wp2_with fail
                refine hK.out _ _ ?_ (fun hHeld => ?_)
                · (try dsimp only); first | (go_keep; done) | ((repeat' constructor) <;> first | exact cell_keep hb1 (by first | assumption | (simp [*]; done)) | exact cell_freeze (by first | assumption | (simp [*]; done)) _ _)
                clear hK K
                (try simp only [Act.put, List.setIfInBounds_toArray, List.set_cons_zero, List.set_cons_succ])
                refine wpAnyH_ready (rs := [8]) (by kernel_rfl) (by simp) ?_
                refine AllReadyH.cons rfl (fun K hK => ?_) ?_
                · go_simp
                  refine hK.out _ _ ?_ (fun hHeld => ?_)
                  · (try dsimp only); first | (go_keep; done) | ((repeat' constructor) <;> first | exact cell_keep hb1 (by first | assumption | (simp [*]; done)) | exact cell_freeze (by first | assumption | (simp [*]; done)) _ _)
                  clear hK K
                  (try simp only [Act.put, List.setIfInBounds_toArray, List.set_cons_zero, List.set_cons_succ])
                  refine wpAnyH_ready (rs := [9]) (by kernel_rfl) (by simp) ?_
                  refine AllReadyH.cons rfl (fun K hK => ?_) ?_
                  · go_simp
                    refine hK.out _ _ ?_ (fun hHeld => ?_)
                    · (try dsimp only); first | (go_keep; done) | ((repeat' constructor) <;> first | exact cell_keep hb1 (by first | assumption | (simp [*]; done)) | exact cell_freeze (by first | assumption | (simp [*]; done)) _ _)
                    clear hK K
                    (try simp only [Act.put, List.setIfInBounds_toArray, List.set_cons_zero, List.set_cons_succ])
                    refine wpAnyH_done (by kernel_rfl) ?_ _
                    go_wp2_with fail
                    go_meet
                    refine ⟨_, _, _, _, rfl, blk_new _ _, ⟨⟨_, _, _, _, rfl, Nat.zero_le _, ?_⟩, ⟨_, _, _, _, rfl, Nat.zero_le _, ?_⟩, ⟨_, _, _, _, rfl, Nat.zero_le _, ?_⟩, trivial⟩, ?_, ?_⟩
                    · repeat (first | ((with_reducible refine Rb.newn ?_ ?_) <;> rfl) | ((with_reducible refine Rb.newn1 ?_ ?_) <;> rfl) | with_reducible refine Rb.alloc ?_ _ | with_reducible refine Rb.freeze ?_ _ _ | with_reducible refine Rb.drew ?_ | ((with_reducible refine Rb.blkn (by assumption) ?_ ?_) <;> rfl) | with_reducible refine Rb.below ?_ (by assumption))
                    · repeat (first | with_reducible assumption | with_reducible refine Rb.alloc ?_ _ | with_reducible refine Rb.freeze ?_ _ _ | with_reducible refine Rb.drew ?_ | with_reducible refine Rb.below ?_ (by assumption))
                    · repeat (first | with_reducible assumption | with_reducible refine Rb.alloc ?_ _ | with_reducible refine Rb.freeze ?_ _ _ | with_reducible refine Rb.drew ?_ | with_reducible refine Rb.below ?_ (by assumption))
                    · unfold Hid; repeat (first | with_reducible exact Below.refl _ _ | with_reducible refine below_alloc' ?_ _ | with_reducible refine Lib.below_freeze ?_ (by dsimp only; omega) _ | with_reducible refine Below.drew ?_ | with_reducible refine below_then ?_ (by assumption))
                    · unfold Hid; repeat (first | with_reducible exact blk_new _ _ | with_reducible refine blk_alloc ?_ _ | with_reducible refine blk_freeze_other ?_ _ _ (by dsimp only; omega) | with_reducible refine blk_drew ?_ | with_reducible refine blk_below ?_ (by assumption))
                  exact AllReadyH.nil
                exact AllReadyH.nil
              exact AllReadyH.nil
            refine AllReadyH.cons rfl (fun K hK => ?_) ?_
            · go_simp
              refine (tagTextS _ _ (by omega) (by omega)).mono ?_
              rintro e w1 ⟨g1, o1, n1, c1, rfl, hg1, hr1, hb1⟩
              have hzz := hb1.size
              (try simp only [size_freeze, size_drew, World.size_alloc] at hzz)
              (first | (have hq := blk_below hq hb1; have hkc := kd.out _ _ _ _ 7 7 hq) | (have hq := lit_atd #[.int .u8 118, .int .u8 101, .int .u8 104, .int .u8 105, .int .u8 99, .int .u8 108, .int .u8 101] 5 hb1; (try simp only [World.size_alloc] at hq); have hkc := kd.out _ _ _ _ 7 7 hq) | (have hq := lit_at #[.int .u8 118, .int .u8 101, .int .u8 104, .int .u8 105, .int .u8 99, .int .u8 108, .int .u8 101] 5 hb1; (try simp only [World.size_alloc] at hq); have hkc := kd.out _ _ _ _ 7 7 hq) | skip)
              go_wp2_with fail
              refine hK.out _ _ ?_ (fun hHeld => ?_)
              · (try dsimp only); first | (go_keep; done) | ((repeat' constructor) <;> first | exact cell_keep hb1 (by first | assumption | (simp [*]; done)) | exact cell_freeze (by first | assumption | (simp [*]; done)) _ _)
              clear hK K
              (try simp only [Act.put, List.setIfInBounds_toArray, List.set_cons_zero, List.set_cons_succ])
              refine wpAnyH_ready (rs := [1]) (by kernel_rfl) (by simp) ?_
              refine AllReadyH.cons rfl (fun K hK => ?_) ?_
              · go_simp
                refine hK.out _ _ ?_ (fun hHeld => ?_)
                · (try dsimp only); first | (go_keep; done) | ((repeat' constructor) <;> first | exact cell_keep hb1 (by first | assumption | (simp [*]; done)) | exact cell_freeze (by first | assumption | (simp [*]; done)) _ _)
                clear hK K
                (try simp only [Act.put, List.setIfInBounds_toArray, List.set_cons_zero, List.set_cons_succ])
                refine wpAnyH_ready (rs := [8]) (by kernel_rfl) (by simp) ?_
                refine AllReadyH.cons rfl (fun K hK => ?_) ?_
                · go_simp
                  refine hK.out _ _ ?_ (fun hHeld => ?_)
                  · (try dsimp only); first | (go_keep; done) | ((repeat' constructor) <;> first | exact cell_keep hb1 (by first | assumption | (simp [*]; done)) | exact cell_freeze (by first | assumption | (simp [*]; done)) _ _)
                  clear hK K
                  (try simp only [Act.put, List.setIfInBounds_toArray, List.set_cons_zero, List.set_cons_succ])
                  refine wpAnyH_ready (rs := [9]) (by kernel_rfl) (by simp) ?_
                  refine AllReadyH.cons rfl (fun K hK => ?_) ?_
                  · go_simp
                    refine hK.out _ _ ?_ (fun hHeld => ?_)
                    · (try dsimp only); first | (go_keep; done) | ((repeat' constructor) <;> first | exact cell_keep hb1 (by first | assumption | (simp [*]; done)) | exact cell_freeze (by first | assumption | (simp [*]; done)) _ _)
                    clear hK K
                    (try simp only [Act.put, List.setIfInBounds_toArray, List.set_cons_zero, List.set_cons_succ])
                    refine wpAnyH_done (by kernel_rfl) ?_ _
                    go_wp2_with fail
                    go_meet
                    refine ⟨_, _, _, _, rfl, blk_new _ _, ⟨⟨_, _, _, _, rfl, Nat.zero_le _, ?_⟩, ⟨_, _, _, _, rfl, Nat.zero_le _, ?_⟩, ⟨_, _, _, _, rfl, Nat.zero_le _, ?_⟩, trivial⟩, ?_, ?_⟩
                    · repeat (first | ((with_reducible refine Rb.newn ?_ ?_) <;> rfl) | ((with_reducible refine Rb.newn1 ?_ ?_) <;> rfl) | with_reducible refine Rb.alloc ?_ _ | with_reducible refine Rb.freeze ?_ _ _ | with_reducible refine Rb.drew ?_ | ((with_reducible refine Rb.blkn (by assumption) ?_ ?_) <;> rfl) | with_reducible refine Rb.below ?_ (by assumption))
                    · repeat (first | with_reducible assumption | with_reducible refine Rb.alloc ?_ _ | with_reducible refine Rb.freeze ?_ _ _ | with_reducible refine Rb.drew ?_ | with_reducible refine Rb.below ?_ (by assumption))
                    · repeat (first | with_reducible assumption | with_reducible refine Rb.alloc ?_ _ | with_reducible refine Rb.freeze ?_ _ _ | with_reducible refine Rb.drew ?_ | with_reducible refine Rb.below ?_ (by assumption))
                    · unfold Hid; repeat (first | with_reducible exact Below.refl _ _ | with_reducible refine below_alloc' ?_ _ | with_reducible refine Lib.below_freeze ?_ (by dsimp only; omega) _ | with_reducible refine Below.drew ?_ | with_reducible refine below_then ?_ (by assumption))
                    · unfold Hid; repeat (first | with_reducible exact blk_new _ _ | with_reducible refine blk_alloc ?_ _ | with_reducible refine blk_freeze_other ?_ _ _ (by dsimp only; omega) | with_reducible refine blk_drew ?_ | with_reducible refine blk_below ?_ (by assumption))
                  exact AllReadyH.nil
                exact AllReadyH.nil
              exact AllReadyH.nil
            exact AllReadyH.nil
          refine AllReadyH.cons rfl (fun K hK => ?_) ?_
          · go_simp
            refine (tagTextS _ _ (by omega) (by omega)).mono ?_
            rintro e w1 ⟨g1, o1, n1, c1, rfl, hg1, hr1, hb1⟩
            have hzz := hb1.size
            (try simp only [size_freeze, size_drew, World.size_alloc] at hzz)
            (first | (have hq := blk_below hq hb1; have hkc := kd.out _ _ _ _ 7 7 hq) | (have hq := lit_atd #[.int .u8 118, .int .u8 101, .int .u8 104, .int .u8 105, .int .u8 99, .int .u8 108, .int .u8 101] 5 hb1; (try simp only [World.size_alloc] at hq); have hkc := kd.out _ _ _ _ 7 7 hq) | (have hq := lit_at #[.int .u8 118, .int .u8 101, .int .u8 104, .int .u8 105, .int .u8 99, .int .u8 108, .int .u8 101] 5 hb1; (try simp only [World.size_alloc] at hq); have hkc := kd.out _ _ _ _ 7 7 hq) | skip)
            go_wp2_with fail
            refine hK.out _ _ ?_ (fun hHeld => ?_)
            · (try dsimp only); first | (go_keep; done) | ((repeat' constructor) <;> first | exact cell_keep hb1 (by first | assumption | (simp [*]; done)) | exact cell_freeze (by first | assumption | (simp [*]; done)) _ _)
            clear hK K
            (try simp only [Act.put, List.setIfInBounds_toArray, List.set_cons_zero, List.set_cons_succ])
            refine wpAnyH_ready (rs := [0]) (by kernel_rfl) (by simp) ?_
            refine AllReadyH.cons rfl (fun K hK => ?_) ?_
            · go_simp
              refine hK.out _ _ ?_ (fun hHeld => ?_)
              · (try dsimp only); first | (go_keep; done) | ((repeat' constructor) <;> first | exact cell_keep hb1 (by first | assumption | (simp [*]; done)) | exact cell_freeze (by first | assumption | (simp [*]; done)) _ _)
              clear hK K
              (try simp only [Act.put, List.setIfInBounds_toArray, List.set_cons_zero, List.set_cons_succ])
              refine wpAnyH_ready (rs := [1]) (by kernel_rfl) (by simp) ?_
              refine AllReadyH.cons rfl (fun K hK => ?_) ?_
              · go_simp
                refine hK.out _ _ ?_ (fun hHeld => ?_)
                · (try dsimp only); first | (go_keep; done) | ((repeat' constructor) <;> first | exact cell_keep hb1 (by first | assumption | (simp [*]; done)) | exact cell_freeze (by first | assumption | (simp [*]; done)) _ _)
                clear hK K
                (try simp only [Act.put, List.setIfInBounds_toArray, List.set_cons_zero, List.set_cons_succ])
                refine wpAnyH_ready (rs := [8]) (by kernel_rfl) (by simp) ?_
                refine AllReadyH.cons rfl (fun K hK => ?_) ?_
                · go_simp
                  refine hK.out _ _ ?_ (fun hHeld => ?_)
                  · (try dsimp only); first | (go_keep; done) | ((repeat' constructor) <;> first | exact cell_keep hb1 (by first | assumption | (simp [*]; done)) | exact cell_freeze (by first | assumption | (simp [*]; done)) _ _)
                  clear hK K
                  (try simp only [Act.put, List.setIfInBounds_toArray, List.set_cons_zero, List.set_cons_succ])
                  refine wpAnyH_ready (rs := [9]) (by kernel_rfl) (by simp) ?_
                  refine AllReadyH.cons rfl (fun K hK => ?_) ?_
                  · go_simp
                    refine hK.out _ _ ?_ (fun hHeld => ?_)
                    · (try dsimp only); first | (go_keep; done) | ((repeat' constructor) <;> first | exact cell_keep hb1 (by first | assumption | (simp [*]; done)) | exact cell_freeze (by first | assumption | (simp [*]; done)) _ _)
                    clear hK K
                    (try simp only [Act.put, List.setIfInBounds_toArray, List.set_cons_zero, List.set_cons_succ])
                    refine wpAnyH_done (by kernel_rfl) ?_ _
                    go_wp2_with fail
                    go_meet
                    refine ⟨_, _, _, _, rfl, blk_new _ _, ⟨⟨_, _, _, _, rfl, Nat.zero_le _, ?_⟩, ⟨_, _, _, _, rfl, Nat.zero_le _, ?_⟩, ⟨_, _, _, _, rfl, Nat.zero_le _, ?_⟩, trivial⟩, ?_, ?_⟩
                    · repeat (first | ((with_reducible refine Rb.newn ?_ ?_) <;> rfl) | ((with_reducible refine Rb.newn1 ?_ ?_) <;> rfl) | with_reducible refine Rb.alloc ?_ _ | with_reducible refine Rb.freeze ?_ _ _ | with_reducible refine Rb.drew ?_ | ((with_reducible refine Rb.blkn (by assumption) ?_ ?_) <;> rfl) | with_reducible refine Rb.below ?_ (by assumption))
                    · repeat (first | with_reducible assumption | with_reducible refine Rb.alloc ?_ _ | with_reducible refine Rb.freeze ?_ _ _ | with_reducible refine Rb.drew ?_ | with_reducible refine Rb.below ?_ (by assumption))
                    · repeat (first | with_reducible assumption | with_reducible refine Rb.alloc ?_ _ | with_reducible refine Rb.freeze ?_ _ _ | with_reducible refine Rb.drew ?_ | with_reducible refine Rb.below ?_ (by assumption))
                    · unfold Hid; repeat (first | with_reducible exact Below.refl _ _ | with_reducible refine below_alloc' ?_ _ | with_reducible refine Lib.below_freeze ?_ (by dsimp only; omega) _ | with_reducible refine Below.drew ?_ | with_reducible refine below_then ?_ (by assumption))
                    · unfold Hid; repeat (first | with_reducible exact blk_new _ _ | with_reducible refine blk_alloc ?_ _ | with_reducible refine blk_freeze_other ?_ _ _ (by dsimp only; omega) | with_reducible refine blk_drew ?_ | with_reducible refine blk_below ?_ (by assumption))
                  exact AllReadyH.nil
                exact AllReadyH.nil
              exact AllReadyH.nil
            exact AllReadyH.nil
          exact AllReadyH.nil
        exact AllReadyH.nil
      case rest =>
        obtain ⟨g, v1, v2, v3, rfl, hbk, hfv, hbx, hbox⟩ := hcut
        have P1 := Hid.mk VBk.out.p
        have hsm := Hid.mk (vehL_small VBk.out)
        have q2 := blk_cell hbox.out 2
        have q3 := blk_cell hbox.out 3
        have q4 := blk_cell hbox.out 4
        have q5 := blk_cell hbox.out 5
        have q6 := blk_cell hbox.out 6
        simp only [List.getElem?_toArray, List.getElem?_cons_zero, List.getElem?_cons_succ] at q2 q3 q4 q5 q6
        clear x0 e0 e1 e2 e3 e4 e5 e6
        have HO1 := Hid.mk (Own.below ho.out hbx.out)
        have HB1 := Hid.mk (below_then hb.out hbx.out)
        have HX1 := Hid.mk (blk_below hx.out hbx.out)
        clear ho hb hx hbx
        go_wp2_with (go_at_call 69; refine (placeFieldsS _ _ _ _ _ _ P1.out.x P1.out.y P1.out.o P1.out.c P1.out.h).mono ?_; rintro e w1 ⟨g1, p1, p2, p3, p4, p5, rfl, hblk1, hfv1, hb1⟩; refine Hid.out ?_)
        refine Lib.hid ?_
        have HO2 := Hid.mk (Own.below HO1.out hb1)
        have HB2 := Hid.mk (below_then HB1.out hb1)
        have HX2 := Hid.mk (blk_below HX1.out hb1)
        have HA := Hid.mk (FVs.append (FVs.below hb1 hfv.out) (FVs.low hfv1))
        have C1 := Hid.mk (cells_of_blk (vs := [v1, v2, v3]) (blk_below hbk.out hb1))
        have C2 := Hid.mk (cells_of_blk (vs := [p1, p2, p3, p4, p5]) hblk1)
        have O2 := Hid.mk (FVs.one hfv1)
        clear hb1 hblk1 hfv1 hfv hbk HO1 HB1 HX1 hbox q2 q3 q4 q5 q6
        go_wp2_with (at_builtin; refine wpList_append_grows _ rfl _ _ 105 rfl 28 j0 (.slice none 0 0) 1 24 Tryd.underlying105 hj hy0 hy1 hy2 rfl (by decide) (some ⟨g, 0, none⟩) 3 3 [v1, v2, v3] rfl (by intro h; cases h) rfl (by intro b hb; injection hb with hb; subst hb; exact C1.out) ⟨g1, 0, none⟩ 5 5 [p1, p2, p3, p4, p5] rfl rfl C2.out O2.out (by omega) (by unfold maxLen; omega) (by omega) ?_)
        intro vf w2 hownf hgrowf
        have hb2 := below_grows hgrowf
        obtain ⟨g2, cap2, hvf⟩ := Joins.ownsRow_form hownf (by omega)
        have C3 := Hid.mk (hownf.cells (g := g2) (by rw [hvf]; rfl))
        rw [hvf]
        have HO3 := Hid.mk (Own.below HO2.out hb2)
        have HB3 := Hid.mk (below_then HB2.out hb2)
        have HX3 := Hid.mk (blk_below HX2.out hb2)
        have HF := Hid.mk (FVs.below hb2 HA.out)
        clear hownf hgrowf hvf hb2 HO2 HB2 HX2 HA C1 C2 O2
        go_wp2_with (go_at_call 70; refine (joinN (vehL (I.V k)) _ g2 0 cap2 _ w2 rfl HF.out C3.out (by simp [vehL]) hsm.out).mono ?_; rintro e w3 ⟨g3, o3, m3, d3, rfl, hr3, hb3⟩; refine Hid.out ?_)
        refine Lib.hid ?_
        have HO4 := Hid.mk (Own.below HO3.out hb3)
        have HB4 := Hid.mk (below_then HB3.out hb3)
        have HX4 := Hid.mk (blk_below HX3.out hb3)
        have hln : m3 ≤ 600 := by rw [hr3.1]; exact line_len (by simp [vehL]) hsm.out
        have HR := Hid.mk hr3
        have hz4 := blk_lt HX4.out
        clear hr3 hb3 HO3 HB3 HX3 C3 HF
        go_wp2_with (at_builtin; refine wpList_append_own _ rfl _ _ 28 rfl (w.heap.size + 1) 5 i0 (.int .u8 0) 1 1 Tryd.underlying28 hi hz0 hz1 hz2 rfl (by decide) _ _ _ rfl HO4.out ⟨g3, o3, none⟩ m3 d3 (Lib.byteCells (line (vehL (I.V k)))) rfl (by simp [Lib.byteCells]; exact HR.out.1.symm) HR.out.2.2 (byteCells_one _) (by unfold maxLen; omega) (by omega) (by omega) ?_)
        intro v4 w4 hown4 hgrow4 _
        have HO5 : Hid (Own (w.heap.size + 1) w4 v4 (rowsV I (k + 1))) := by rw [rowsV_succ]; exact own_app HR.out.1 hown4
        have HB5 : Hid (Below w.heap.size w w4) := HB4.out.grown hgrow4 HB4.out.size (fun k hk => Nat.le_of_succ_le (HO4.out.lt k hk).1)
        have HX5 := Hid.mk (blk_grown HX4.out hgrow4 (fun e => by have := (HO4.out.lt _ e).1; omega))
        clear hown4 hgrow4
        go_wp2
        exact ⟨⟨k + 1, by omega, by go_num, HO5, HB5, HX5⟩, by simp [intOf]; omega⟩
    · have hkn : k = I.nV := by omega
      subst hkn
      go_wp2
      clear x0 hlt
      obtain ⟨wo, hwo⟩ : ∃ wo : World, wo = wr := ⟨_, rfl⟩
      rw [← hwo] at hb hx ho ⊢
      clear hwo hl hwz hk
      go_loopw [3, 7] (fun v i wr => ∃ k : Nat, k ≤ I.nQ ∧ i = .int .i64 k ∧ Hid (Own (w.heap.size + 1) wr v (rowsQ I k)) ∧ Hid (Below w.heap.size w wr) ∧ Hid (wr.heap[w.heap.size]? = some (.cells #[.slice a1 I.nV c1, .slice a2 I.nQ c2, .slice a3 I.nR c3] 34))) (fun _ i _ => I.nQ - (intOf i).toNat)
      case atStart => exact ⟨0, Nat.zero_le _, rfl, by rw [rowsQ_zero]; exact ho, hb, hx⟩
      case round =>
        clear hb hx ho
        obtain ⟨k, hk, rfl, ho, hb, hx⟩ := hrel
        have hl := rowsQ_len G.out hk
        have hwz := blk_lt hx.out
        obtain ⟨a, ca, hv⟩ := Own.shape ho.out
        rw [hv] at ho ⊢
        clear hv
        have x0 := blk_cell hx.out 1
        simp only [List.getElem?_toArray, List.getElem?_cons_zero, List.getElem?_cons_succ] at x0
        by_cases hlt : k < I.nQ
        · rcases H.out.q with hs | ⟨b, off, rfl, hs⟩
          · omega
          obtain ⟨e0, e1, e2, e3, e4, e5, e6, e7, e8, e9, e10, e11⟩ := Req.at (rangeAt_below (hs k hlt) hb.out)
          clear hs
          have VBk := Hid.mk (G.out.q k hlt)
          have hb0 := VBk.out.a
          have hb1' := VBk.out.b
          go_upto_region 13 with fail
          go_cut [9] from 43 to 77 (fun s6 wx => ∃ g v1 v2 v3, s6 = .slice (some ⟨g, 0, none⟩) 3 3 ∧ Hid (wx.heap[g]? = some (.cells #[v1, v2, v3] 28)) ∧ Hid (FVs 0 wx [v1, v2, v3] [[114, 101, 113, 117, 101, 115, 116], Lib.itoa (I.Q k).a, tagText (I.Q k).b]) ∧ Hid (Below wr.heap.size wr wx) ∧ Hid (wx.heap[wr.heap.size]? = some (.cells #[.int .i64 (I.Q k).a, .int .i64 (I.Q k).b, .int .i64 (I.Q k).x, .int .i64 (I.Q k).y, .int .i64 (I.Q k).o, .int .i64 (I.Q k).c, .int .i64 (I.Q k).h, .int .i64 (I.Q k).x', .int .i64 (I.Q k).y', .int .i64 (I.Q k).o', .int .i64 (I.Q k).c', .int .i64 (I.Q k).h'] 72)))
          case first =>
            clear x0 e0 e1 e2 e3 e4 e5 e6 e7 e8 e9 e10 e11 ho
            refine wp_region_held_drew (S := (fun w' => w'.cell? ⟨wr.heap.size, 0, none⟩ = some (.int .i64 (I.Q k).a) ∧ w'.cell? ⟨wr.heap.size, 1, none⟩ = some (.int .i64 (I.Q k).b))) (by kernel_rfl) ?_ (fun hHeld => ?_)
            · go_keep
            refine wpAnyH_take (i := 2) (v := ?_) rfl (by kernel_rfl) (by kernel_rfl) (by kernel_rfl) (fun _ _ _ h => h) (Or.inl ⟨by rfl, ?_⟩) (by assumption) ?_
            rotate_left
            · intro w hSw; (try dsimp only at hSw); go_simp; (try with_reducible rfl)
            rotate_left
            simp only [Act.put, List.setIfInBounds_toArray, List.set_cons_zero, List.set_cons_succ]
            refine wpAnyH_take (i := 3) (v := ?_) rfl (by kernel_rfl) (by kernel_rfl) (by kernel_rfl) (fun _ _ _ h => h) (Or.inl ⟨by rfl, ?_⟩) (by assumption) ?_
            rotate_left
            · intro w hSw; (try dsimp only at hSw); go_simp; (try with_reducible rfl)
            rotate_left
            simp only [Act.put, List.setIfInBounds_toArray, List.set_cons_zero, List.set_cons_succ]
            refine wpAnyH_take (i := 5) (v := ?_) rfl (by kernel_rfl) (by kernel_rfl) (by kernel_rfl) (fun _ _ _ h => h) (Or.inl ⟨by rfl, ?_⟩) (by assumption) ?_
            rotate_left
            · intro w hSw; (try dsimp only at hSw); go_simp; (try with_reducible rfl)
            rotate_left
            simp only [Act.put, List.setIfInBounds_toArray, List.set_cons_zero, List.set_cons_succ]
            refine wpAnyH_take (i := 6) (v := ?_) rfl (by kernel_rfl) (by kernel_rfl) (by kernel_rfl) (fun _ _ _ h => h) (Or.inl ⟨by rfl, ?_⟩) (by assumption) ?_
            rotate_left
            · intro w hSw; (try dsimp only at hSw); go_simp; (try with_reducible rfl)
            rotate_left
            simp only [Act.put, List.setIfInBounds_toArray, List.set_cons_zero, List.set_cons_succ]
            refine wpAnyH_ready (rs := [0, 4]) (by kernel_rfl) (by simp) ?_
            refine AllReadyH.cons rfl (fun K hK => ?_) ?_
            · go_simp
              refine hK.out _ _ ?_ (fun hHeld => ?_)
              · (try dsimp only); first | (go_keep; done) | ((repeat' constructor) <;> first | exact cell_keep hb1 (by first | assumption | (simp [*]; done)) | exact cell_freeze (by first | assumption | (simp [*]; done)) _ _)
              clear hK K
              (try simp only [Act.put, List.setIfInBounds_toArray, List.set_cons_zero, List.set_cons_succ])
              refine wpAnyH_ready (rs := [1, 4]) (by kernel_rfl) (by simp) ?_
              refine AllReadyH.cons rfl (fun K hK => ?_) ?_
              · go_simp
                refine hK.out _ _ ?_ (fun hHeld => ?_)
                · (try dsimp only); first | (go_keep; done) | ((repeat' constructor) <;> first | exact cell_keep hb1 (by first | assumption | (simp [*]; done)) | exact cell_freeze (by first | assumption | (simp [*]; done)) _ _)
                clear hK K
                (try simp only [Act.put, List.setIfInBounds_toArray, List.set_cons_zero, List.set_cons_succ])
                refine wpAnyH_ready (rs := [4]) (by kernel_rfl) (by simp) ?_
                refine AllReadyH.cons rfl (fun K hK => ?_) ?_
                · go_simp
                  refine (decimalR _ _ (by omega) (by omega)).mono ?_
                  rintro e w1 ⟨g1, o1, n1, c1, rfl, hg1, hr1, hb1⟩
                  have hzz := hb1.size
                  (try simp only [size_freeze, size_drew, World.size_alloc] at hzz)
                  (first | (have hq := blk_below hq hb1; have hkc := kd.out _ _ _ _ 7 7 hq) | (have hq := lit_atd #[.int .u8 114, .int .u8 101, .int .u8 113, .int .u8 117, .int .u8 101, .int .u8 115, .int .u8 116] 5 hb1; (try simp only [World.size_alloc] at hq); have hkc := kd.out _ _ _ _ 7 7 hq) | (have hq := lit_at #[.int .u8 114, .int .u8 101, .int .u8 113, .int .u8 117, .int .u8 101, .int .u8 115, .int .u8 116] 5 hb1; (try simp only [World.size_alloc] at hq); have hkc := kd.out _ _ _ _ 7 7 hq) | skip)
                  go_wp2_with fail
                  refine hK.out _ _ ?_ (fun hHeld => ?_)
                  · (try dsimp only); first | (go_keep; done) | ((repeat' constructor) <;> first | exact cell_keep hb1 (by first | assumption | (simp [*]; done)) | exact cell_freeze (by first | assumption | (simp [*]; done)) _ _)
                  clear hK K
                  (try simp only [Act.put, List.setIfInBounds_toArray, List.set_cons_zero, List.set_cons_succ])
                  refine wpAnyH_ready (rs := [7]) (by kernel_rfl) (by simp) ?_
                  refine AllReadyH.cons rfl (fun K hK => ?_) ?_
                  · go_simp
                    refine (tagTextS _ _ (by omega) (by omega)).mono ?_
                    rintro e w1 ⟨g1, o1, n1, c1, rfl, hg1, hr1, hb1⟩
                    have hzz := hb1.size
                    (try simp only [size_freeze, size_drew, World.size_alloc] at hzz)
                    (first | (have hq := blk_below hq hb1; have hkc := kd.out _ _ _ _ 7 7 hq) | (have hq := lit_atd #[.int .u8 114, .int .u8 101, .int .u8 113, .int .u8 117, .int .u8 101, .int .u8 115, .int .u8 116] 5 hb1; (try simp only [World.size_alloc] at hq); have hkc := kd.out _ _ _ _ 7 7 hq) | (have hq := lit_at #[.int .u8 114, .int .u8 101, .int .u8 113, .int .u8 117, .int .u8 101, .int .u8 115, .int .u8 116] 5 hb1; (try simp only [World.size_alloc] at hq); have hkc := kd.out _ _ _ _ 7 7 hq) | skip)
                    go_wp2_with fail
                    refine hK.out _ _ ?_ (fun hHeld => ?_)
                    · (try dsimp only); first | (go_keep; done) | ((repeat' constructor) <;> first | exact cell_keep hb1 (by first | assumption | (simp [*]; done)) | exact cell_freeze (by first | assumption | (simp [*]; done)) _ _)
                    clear hK K
                    (try simp only [Act.put, List.setIfInBounds_toArray, List.set_cons_zero, List.set_cons_succ])
                    refine wpAnyH_ready (rs := [8]) (by kernel_rfl) (by simp) ?_
                    refine AllReadyH.cons rfl (fun K hK => ?_) ?_
                    · go_simp
                      refine hK.out _ _ ?_ (fun hHeld => ?_)
                      · (try dsimp only); first | (go_keep; done) | ((repeat' constructor) <;> first | exact cell_keep hb1 (by first | assumption | (simp [*]; done)) | exact cell_freeze (by first | assumption | (simp [*]; done)) _ _)
                      clear hK K
                      (try simp only [Act.put, List.setIfInBounds_toArray, List.set_cons_zero, List.set_cons_succ])
                      refine wpAnyH_ready (rs := [9]) (by kernel_rfl) (by simp) ?_
                      refine AllReadyH.cons rfl (fun K hK => ?_) ?_
                      · go_simp
                        refine hK.out _ _ ?_ (fun hHeld => ?_)
                        · (try dsimp only); first | (go_keep; done) | ((repeat' constructor) <;> first | exact cell_keep hb1 (by first | assumption | (simp [*]; done)) | exact cell_freeze (by first | assumption | (simp [*]; done)) _ _)
                        clear hK K
                        (try simp only [Act.put, List.setIfInBounds_toArray, List.set_cons_zero, List.set_cons_succ])
                        refine wpAnyH_done (by kernel_rfl) ?_ _
                        go_wp2_with fail
                        go_meet
                        refine ⟨_, _, _, _, rfl, blk_new _ _, ⟨⟨_, _, _, _, rfl, Nat.zero_le _, ?_⟩, ⟨_, _, _, _, rfl, Nat.zero_le _, ?_⟩, ⟨_, _, _, _, rfl, Nat.zero_le _, ?_⟩, trivial⟩, ?_, ?_⟩
                        · repeat (first | ((with_reducible refine Rb.newn ?_ ?_) <;> rfl) | ((with_reducible refine Rb.newn1 ?_ ?_) <;> rfl) | with_reducible refine Rb.alloc ?_ _ | with_reducible refine Rb.freeze ?_ _ _ | with_reducible refine Rb.drew ?_ | ((with_reducible refine Rb.blkn (by assumption) ?_ ?_) <;> rfl) | with_reducible refine Rb.below ?_ (by assumption))
                        · repeat (first | with_reducible assumption | with_reducible refine Rb.alloc ?_ _ | with_reducible refine Rb.freeze ?_ _ _ | with_reducible refine Rb.drew ?_ | with_reducible refine Rb.below ?_ (by assumption))
                        · repeat (first | with_reducible assumption | with_reducible refine Rb.alloc ?_ _ | with_reducible refine Rb.freeze ?_ _ _ | with_reducible refine Rb.drew ?_ | with_reducible refine Rb.below ?_ (by assumption))
                        · unfold Hid; repeat (first | with_reducible exact Below.refl _ _ | with_reducible refine below_alloc' ?_ _ | with_reducible refine Lib.below_freeze ?_ (by dsimp only; omega) _ | with_reducible refine Below.drew ?_ | with_reducible refine below_then ?_ (by assumption))
                        · unfold Hid; repeat (first | with_reducible exact blk_new _ _ | with_reducible refine blk_alloc ?_ _ | with_reducible refine blk_freeze_other ?_ _ _ (by dsimp only; omega) | with_reducible refine blk_drew ?_ | with_reducible refine blk_below ?_ (by assumption))
                      exact AllReadyH.nil
                    exact AllReadyH.nil
                  exact AllReadyH.nil
                exact AllReadyH.nil
              refine AllReadyH.cons rfl (fun K hK => ?_) ?_
              · go_simp
                refine (decimalR _ _ (by omega) (by omega)).mono ?_
                rintro e w1 ⟨g1, o1, n1, c1, rfl, hg1, hr1, hb1⟩
                have hzz := hb1.size
                (try simp only [size_freeze, size_drew, World.size_alloc] at hzz)
                (first | (have hq := blk_below hq hb1; have hkc := kd.out _ _ _ _ 7 7 hq) | (have hq := lit_atd #[.int .u8 114, .int .u8 101, .int .u8 113, .int .u8 117, .int .u8 101, .int .u8 115, .int .u8 116] 5 hb1; (try simp only [World.size_alloc] at hq); have hkc := kd.out _ _ _ _ 7 7 hq) | (have hq := lit_at #[.int .u8 114, .int .u8 101, .int .u8 113, .int .u8 117, .int .u8 101, .int .u8 115, .int .u8 116] 5 hb1; (try simp only [World.size_alloc] at hq); have hkc := kd.out _ _ _ _ 7 7 hq) | skip)
                go_wp2_with fail
                refine hK.out _ _ ?_ (fun hHeld => ?_)
                · (try dsimp only); first | (go_keep; done) | ((repeat' constructor) <;> first | exact cell_keep hb1 (by first | assumption | (simp [*]; done)) | exact cell_freeze (by first | assumption | (simp [*]; done)) _ _)
                clear hK K
                (try simp only [Act.put, List.setIfInBounds_toArray, List.set_cons_zero, List.set_cons_succ])
                refine wpAnyH_ready (rs := [1, 7]) (by kernel_rfl) (by simp) ?_
                refine AllReadyH.cons rfl (fun K hK => ?_) ?_
                · go_simp
                  refine hK.out _ _ ?_ (fun hHeld => ?_)
                  · (try dsimp only); first | (go_keep; done) | ((repeat' constructor) <;> first | exact cell_keep hb1 (by first | assumption | (simp [*]; done)) | exact cell_freeze (by first | assumption | (simp [*]; done)) _ _)
                  clear hK K
                  (try simp only [Act.put, List.setIfInBounds_toArray, List.set_cons_zero, List.set_cons_succ])
                  refine wpAnyH_ready (rs := [7]) (by kernel_rfl) (by simp) ?_
                  refine AllReadyH.cons rfl (fun K hK => ?_) ?_
                  · go_simp
                    refine (tagTextS _ _ (by omega) (by omega)).mono ?_
                    rintro e w1 ⟨g1, o1, n1, c1, rfl, hg1, hr1, hb1⟩
                    have hzz := hb1.size
                    (try simp only [size_freeze, size_drew, World.size_alloc] at hzz)
                    (first | (have hq := blk_below hq hb1; have hkc := kd.out _ _ _ _ 7 7 hq) | (have hq := lit_atd #[.int .u8 114, .int .u8 101, .int .u8 113, .int .u8 117, .int .u8 101, .int .u8 115, .int .u8 116] 5 hb1; (try simp only [World.size_alloc] at hq); have hkc := kd.out _ _ _ _ 7 7 hq) | (have hq := lit_at #[.int .u8 114, .int .u8 101, .int .u8 113, .int .u8 117, .int .u8 101, .int .u8 115, .int .u8 116] 5 hb1; (try simp only [World.size_alloc] at hq); have hkc := kd.out _ _ _ _ 7 7 hq) | skip)
                    go_wp2_with fail
                    refine hK.out _ _ ?_ (fun hHeld => ?_)
                    · (try dsimp only); first | (go_keep; done) | ((repeat' constructor) <;> first | exact cell_keep hb1 (by first | assumption | (simp [*]; done)) | exact cell_freeze (by first | assumption | (simp [*]; done)) _ _)
                    clear hK K
                    (try simp only [Act.put, List.setIfInBounds_toArray, List.set_cons_zero, List.set_cons_succ])
                    refine wpAnyH_ready (rs := [8]) (by kernel_rfl) (by simp) ?_
                    refine AllReadyH.cons rfl (fun K hK => ?_) ?_
                    · go_simp
                      refine hK.out _ _ ?_ (fun hHeld => ?_)
                      · (try dsimp only); first | (go_keep; done) | ((repeat' constructor) <;> first | exact cell_keep hb1 (by first | assumption | (simp [*]; done)) | exact cell_freeze (by first | assumption | (simp [*]; done)) _ _)
                      clear hK K
                      (try simp only [Act.put, List.setIfInBounds_toArray, List.set_cons_zero, List.set_cons_succ])
                      refine wpAnyH_ready (rs := [9]) (by kernel_rfl) (by simp) ?_
                      refine AllReadyH.cons rfl (fun K hK => ?_) ?_
                      · go_simp
                        refine hK.out _ _ ?_ (fun hHeld => ?_)
                        · (try dsimp only); first | (go_keep; done) | ((repeat' constructor) <;> first | exact cell_keep hb1 (by first | assumption | (simp [*]; done)) | exact cell_freeze (by first | assumption | (simp [*]; done)) _ _)
                        clear hK K
                        (try simp only [Act.put, List.setIfInBounds_toArray, List.set_cons_zero, List.set_cons_succ])
                        refine wpAnyH_done (by kernel_rfl) ?_ _
                        go_wp2_with fail
                        go_meet
                        refine ⟨_, _, _, _, rfl, blk_new _ _, ⟨⟨_, _, _, _, rfl, Nat.zero_le _, ?_⟩, ⟨_, _, _, _, rfl, Nat.zero_le _, ?_⟩, ⟨_, _, _, _, rfl, Nat.zero_le _, ?_⟩, trivial⟩, ?_, ?_⟩
                        · repeat (first | ((with_reducible refine Rb.newn ?_ ?_) <;> rfl) | ((with_reducible refine Rb.newn1 ?_ ?_) <;> rfl) | with_reducible refine Rb.alloc ?_ _ | with_reducible refine Rb.freeze ?_ _ _ | with_reducible refine Rb.drew ?_ | ((with_reducible refine Rb.blkn (by assumption) ?_ ?_) <;> rfl) | with_reducible refine Rb.below ?_ (by assumption))
                        · repeat (first | with_reducible assumption | with_reducible refine Rb.alloc ?_ _ | with_reducible refine Rb.freeze ?_ _ _ | with_reducible refine Rb.drew ?_ | with_reducible refine Rb.below ?_ (by assumption))
                        · repeat (first | with_reducible assumption | with_reducible refine Rb.alloc ?_ _ | with_reducible refine Rb.freeze ?_ _ _ | with_reducible refine Rb.drew ?_ | with_reducible refine Rb.below ?_ (by assumption))
                        · unfold Hid; repeat (first | with_reducible exact Below.refl _ _ | with_reducible refine below_alloc' ?_ _ | with_reducible refine Lib.below_freeze ?_ (by dsimp only; omega) _ | with_reducible refine Below.drew ?_ | with_reducible refine below_then ?_ (by assumption))
                        · unfold Hid; repeat (first | with_reducible exact blk_new _ _ | with_reducible refine blk_alloc ?_ _ | with_reducible refine blk_freeze_other ?_ _ _ (by dsimp only; omega) | with_reducible refine blk_drew ?_ | with_reducible refine blk_below ?_ (by assumption))
                      exact AllReadyH.nil
                    exact AllReadyH.nil
                  exact AllReadyH.nil
                refine AllReadyH.cons rfl (fun K hK => ?_) ?_
                · go_simp
                  refine (tagTextS _ _ (by omega) (by omega)).mono ?_
                  rintro e w1 ⟨g1, o1, n1, c1, rfl, hg1, hr1, hb1⟩
                  have hzz := hb1.size
                  (try simp only [size_freeze, size_drew, World.size_alloc] at hzz)
                  (first | (have hq := blk_below hq hb1; have hkc := kd.out _ _ _ _ 7 7 hq) | (have hq := lit_atd #[.int .u8 114, .int .u8 101, .int .u8 113, .int .u8 117, .int .u8 101, .int .u8 115, .int .u8 116] 5 hb1; (try simp only [World.size_alloc] at hq); have hkc := kd.out _ _ _ _ 7 7 hq) | (have hq := lit_at #[.int .u8 114, .int .u8 101, .int .u8 113, .int .u8 117, .int .u8 101, .int .u8 115, .int .u8 116] 5 hb1; (try simp only [World.size_alloc] at hq); have hkc := kd.out _ _ _ _ 7 7 hq) | skip)
                  go_wp2_with fail
                  refine hK.out _ _ ?_ (fun hHeld => ?_)
                  · (try dsimp only); first | (go_keep; done) | ((repeat' constructor) <;> first | exact cell_keep hb1 (by first | assumption | (simp [*]; done)) | exact cell_freeze (by first | assumption | (simp [*]; done)) _ _)
                  clear hK K
                  (try simp only [Act.put, List.setIfInBounds_toArray, List.set_cons_zero, List.set_cons_succ])
                  refine wpAnyH_ready (rs := [1]) (by kernel_rfl) (by simp) ?_
                  refine AllReadyH.cons rfl (fun K hK => ?_) ?_
                  · go_simp
                    refine hK.out _ _ ?_ (fun hHeld => ?_)
                    · (try dsimp only); first | (go_keep; done) | ((repeat' constructor) <;> first | exact cell_keep hb1 (by first | assumption | (simp [*]; done)) | exact cell_freeze (by first | assumption | (simp [*]; done)) _ _)
                    clear hK K
                    (try simp only [Act.put, List.setIfInBounds_toArray, List.set_cons_zero, List.set_cons_succ])
                    refine wpAnyH_ready (rs := [8]) (by kernel_rfl) (by simp) ?_
                    refine AllReadyH.cons rfl (fun K hK => ?_) ?_
                    · go_simp
                      refine hK.out _ _ ?_ (fun hHeld => ?_)
                      · (try dsimp only); first | (go_keep; done) | ((repeat' constructor) <;> first | exact cell_keep hb1 (by first | assumption | (simp [*]; done)) | exact cell_freeze (by first | assumption | (simp [*]; done)) _ _)
                      clear hK K
                      (try simp only [Act.put, List.setIfInBounds_toArray, List.set_cons_zero, List.set_cons_succ])
                      refine wpAnyH_ready (rs := [9]) (by kernel_rfl) (by simp) ?_
                      refine AllReadyH.cons rfl (fun K hK => ?_) ?_
                      · go_simp
                        refine hK.out _ _ ?_ (fun hHeld => ?_)
                        · (try dsimp only); first | (go_keep; done) | ((repeat' constructor) <;> first | exact cell_keep hb1 (by first | assumption | (simp [*]; done)) | exact cell_freeze (by first | assumption | (simp [*]; done)) _ _)
                        clear hK K
                        (try simp only [Act.put, List.setIfInBounds_toArray, List.set_cons_zero, List.set_cons_succ])
                        refine wpAnyH_done (by kernel_rfl) ?_ _
                        go_wp2_with fail
                        go_meet
                        refine ⟨_, _, _, _, rfl, blk_new _ _, ⟨⟨_, _, _, _, rfl, Nat.zero_le _, ?_⟩, ⟨_, _, _, _, rfl, Nat.zero_le _, ?_⟩, ⟨_, _, _, _, rfl, Nat.zero_le _, ?_⟩, trivial⟩, ?_, ?_⟩
                        · repeat (first | ((with_reducible refine Rb.newn ?_ ?_) <;> rfl) | ((with_reducible refine Rb.newn1 ?_ ?_) <;> rfl) | with_reducible refine Rb.alloc ?_ _ | with_reducible refine Rb.freeze ?_ _ _ | with_reducible refine Rb.drew ?_ | ((with_reducible refine Rb.blkn (by assumption) ?_ ?_) <;> rfl) | with_reducible refine Rb.below ?_ (by assumption))
                        · repeat (first | with_reducible assumption | with_reducible refine Rb.alloc ?_ _ | with_reducible refine Rb.freeze ?_ _ _ | with_reducible refine Rb.drew ?_ | with_reducible refine Rb.below ?_ (by assumption))
                        · repeat (first | with_reducible assumption | with_reducible refine Rb.alloc ?_ _ | with_reducible refine Rb.freeze ?_ _ _ | with_reducible refine Rb.drew ?_ | with_reducible refine Rb.below ?_ (by assumption))
                        · unfold Hid; repeat (first | with_reducible exact Below.refl _ _ | with_reducible refine below_alloc' ?_ _ | with_reducible refine Lib.below_freeze ?_ (by dsimp only; omega) _ | with_reducible refine Below.drew ?_ | with_reducible refine below_then ?_ (by assumption))
                        · unfold Hid; repeat (first | with_reducible exact blk_new _ _ | with_reducible refine blk_alloc ?_ _ | with_reducible refine blk_freeze_other ?_ _ _ (by dsimp only; omega) | with_reducible refine blk_drew ?_ | with_reducible refine blk_below ?_ (by assumption))
                      exact AllReadyH.nil
                    exact AllReadyH.nil
                  exact AllReadyH.nil
                exact AllReadyH.nil
              exact AllReadyH.nil
            refine AllReadyH.cons rfl (fun K hK => ?_) ?_
            · go_simp
              refine (decimalR _ _ (by omega) (by omega)).mono ?_
              rintro e w1 ⟨g1, o1, n1, c1, rfl, hg1, hr1, hb1⟩
              have hzz := hb1.size
              (try simp only [size_freeze, size_drew, World.size_alloc] at hzz)
              (first | (have hq := blk_below hq hb1; have hkc := kd.out _ _ _ _ 7 7 hq) | (have hq := lit_atd #[.int .u8 114, .int .u8 101, .int .u8 113, .int .u8 117, .int .u8 101, .int .u8 115, .int .u8 116] 5 hb1; (try simp only [World.size_alloc] at hq); have hkc := kd.out _ _ _ _ 7 7 hq) | (have hq := lit_at #[.int .u8 114, .int .u8 101, .int .u8 113, .int .u8 117, .int .u8 101, .int .u8 115, .int .u8 116] 5 hb1; (try simp only [World.size_alloc] at hq); have hkc := kd.out _ _ _ _ 7 7 hq) | skip)
              go_wp2_with fail
              refine hK.out _ _ ?_ (fun hHeld => ?_)
              · (try dsimp only); first | (go_keep; done) | ((repeat' constructor) <;> first | exact cell_keep hb1 (by first | assumption | (simp [*]; done)) | exact cell_freeze (by first | assumption | (simp [*]; done)) _ _)
              clear hK K
              (try simp only [Act.put, List.setIfInBounds_toArray, List.set_cons_zero, List.set_cons_succ])
              refine wpAnyH_ready (rs := [0, 7]) (by kernel_rfl) (by simp) ?_
              refine AllReadyH.cons rfl (fun K hK => ?_) ?_
              · go_simp
                refine hK.out _ _ ?_ (fun hHeld => ?_)
                · (try dsimp only); first | (go_keep; done) | ((repeat' constructor) <;> first | exact cell_keep hb1 (by first | assumption | (simp [*]; done)) | exact cell_freeze (by first | assumption | (simp [*]; done)) _ _)
                clear hK K
                (try simp only [Act.put, List.setIfInBounds_toArray, List.set_cons_zero, List.set_cons_succ])
                refine wpAnyH_ready (rs := [1, 7]) (by kernel_rfl) (by simp) ?_
                refine AllReadyH.cons rfl (fun K hK => ?_) ?_
                · go_simp
                  refine hK.out _ _ ?_ (fun hHeld => ?_)
                  · (try dsimp only); first | (go_keep; done) | ((repeat' constructor) <;> first | exact cell_keep hb1 (by first | assumption | (simp [*]; done)) | exact cell_freeze (by first | assumption | (simp [*]; done)) _ _)
                  clear hK K
                  (try simp only [Act.put, List.setIfInBounds_toArray, List.set_cons_zero, List.set_cons_succ])
                  refine wpAnyH_ready (rs := [7]) (by kernel_rfl) (by simp) ?_
                  refine AllReadyH.cons rfl (fun K hK => ?_) ?_
                  · go_simp
                    refine (tagTextS _ _ (by omega) (by omega)).mono ?_
                    rintro e w1 ⟨g1, o1, n1, c1, rfl, hg1, hr1, hb1⟩
                    have hzz := hb1.size
                    (try simp only [size_freeze, size_drew, World.size_alloc] at hzz)
                    (first | (have hq := blk_below hq hb1; have hkc := kd.out _ _ _ _ 7 7 hq) | (have hq := lit_atd #[.int .u8 114, .int .u8 101, .int .u8 113, .int .u8 117, .int .u8 101, .int .u8 115, .int .u8 116] 5 hb1; (try simp only [World.size_alloc] at hq); have hkc := kd.out _ _ _ _ 7 7 hq) | (have hq := lit_at #[.int .u8 114, .int .u8 101, .int .u8 113, .int .u8 117, .int .u8 101, .int .u8 115, .int .u8 116] 5 hb1; (try simp only [World.size_alloc] at hq); have hkc := kd.out _ _ _ _ 7 7 hq) | skip)
                    go_wp2_with fail
                    refine hK.out _ _ ?_ (fun hHeld => ?_)
                    · (try dsimp only); first | (go_keep; done) | ((repeat' constructor) <;> first | exact cell_keep hb1 (by first | assumption | (simp [*]; done)) | exact cell_freeze (by first | assumption | (simp [*]; done)) _ _)
                    clear hK K
                    (try simp only [Act.put, List.setIfInBounds_toArray, List.set_cons_zero, List.set_cons_succ])
                    refine wpAnyH_ready (rs := [8]) (by kernel_rfl) (by simp) ?_
                    refine AllReadyH.cons rfl (fun K hK => ?_) ?_
                    · go_simp
                      refine hK.out _ _ ?_ (fun hHeld => ?_)
                      · (try dsimp only); first | (go_keep; done) | ((repeat' constructor) <;> first | exact cell_keep hb1 (by first | assumption | (simp [*]; done)) | exact cell_freeze (by first | assumption | (simp [*]; done)) _ _)
                      clear hK K
                      (try simp only [Act.put, List.setIfInBounds_toArray, List.set_cons_zero, List.set_cons_succ])
                      refine wpAnyH_ready (rs := [9]) (by kernel_rfl) (by simp) ?_
                      refine AllReadyH.cons rfl (fun K hK => ?_) ?_
                      · go_simp
                        refine hK.out _ _ ?_ (fun hHeld => ?_)
                        · (try dsimp only); first | (go_keep; done) | ((repeat' constructor) <;> first | exact cell_keep hb1 (by first | assumption | (simp [*]; done)) | exact cell_freeze (by first | assumption | (simp [*]; done)) _ _)
                        clear hK K
                        (try simp only [Act.put, List.setIfInBounds_toArray, List.set_cons_zero, List.set_cons_succ])
                        refine wpAnyH_done (by kernel_rfl) ?_ _
                        go_wp2_with fail
                        go_meet
                        refine ⟨_, _, _, _, rfl, blk_new _ _, ⟨⟨_, _, _, _, rfl, Nat.zero_le _, ?_⟩, ⟨_, _, _, _, rfl, Nat.zero_le _, ?_⟩, ⟨_, _, _, _, rfl, Nat.zero_le _, ?_⟩, trivial⟩, ?_, ?_⟩
                        · repeat (first | ((with_reducible refine Rb.newn ?_ ?_) <;> rfl) | ((with_reducible refine Rb.newn1 ?_ ?_) <;> rfl) | with_reducible refine Rb.alloc ?_ _ | with_reducible refine Rb.freeze ?_ _ _ | with_reducible refine Rb.drew ?_ | ((with_reducible refine Rb.blkn (by assumption) ?_ ?_) <;> rfl) | with_reducible refine Rb.below ?_ (by assumption))
                        · repeat (first | with_reducible assumption | with_reducible refine Rb.alloc ?_ _ | with_reducible refine Rb.freeze ?_ _ _ | with_reducible refine Rb.drew ?_ | with_reducible refine Rb.below ?_ (by assumption))
                        · repeat (first | with_reducible assumption | with_reducible refine Rb.alloc ?_ _ | with_reducible refine Rb.freeze ?_ _ _ | with_reducible refine Rb.drew ?_ | with_reducible refine Rb.below ?_ (by assumption))
                        · unfold Hid; repeat (first | with_reducible exact Below.refl _ _ | with_reducible refine below_alloc' ?_ _ | with_reducible refine Lib.below_freeze ?_ (by dsimp only; omega) _ | with_reducible refine Below.drew ?_ | with_reducible refine below_then ?_ (by assumption))
                        · unfold Hid; repeat (first | with_reducible exact blk_new _ _ | with_reducible refine blk_alloc ?_ _ | with_reducible refine blk_freeze_other ?_ _ _ (by dsimp only; omega) | with_reducible refine blk_drew ?_ | with_reducible refine blk_below ?_ (by assumption))
                      exact AllReadyH.nil
                    exact AllReadyH.nil
                  exact AllReadyH.nil
                refine AllReadyH.cons rfl (fun K hK => ?_) ?_
                · go_simp
                  refine (tagTextS _ _ (by omega) (by omega)).mono ?_
                  rintro e w1 ⟨g1, o1, n1, c1, rfl, hg1, hr1, hb1⟩
                  have hzz := hb1.size
                  (try simp only [size_freeze, size_drew, World.size_alloc] at hzz)
                  (first | (have hq := blk_below hq hb1; have hkc := kd.out _ _ _ _ 7 7 hq) | (have hq := lit_atd #[.int .u8 114, .int .u8 101, .int .u8 113, .int .u8 117, .int .u8 101, .int .u8 115, .int .u8 116] 5 hb1; (try simp only [World.size_alloc] at hq); have hkc := kd.out _ _ _ _ 7 7 hq) | (have hq := lit_at #[.int .u8 114, .int .u8 101, .int .u8 113, .int .u8 117, .int .u8 101, .int .u8 115, .int .u8 116] 5 hb1; (try simp only [World.size_alloc] at hq); have hkc := kd.out _ _ _ _ 7 7 hq) | skip)
                  go_wp2_with fail
                  refine hK.out _ _ ?_ (fun hHeld => ?_)
                  · (try dsimp only); first | (go_keep; done) | ((repeat' constructor) <;> first | exact cell_keep hb1 (by first | assumption | (simp [*]; done)) | exact cell_freeze (by first | assumption | (simp [*]; done)) _ _)
                  clear hK K
                  (try simp only [Act.put, List.setIfInBounds_toArray, List.set_cons_zero, List.set_cons_succ])
                  refine wpAnyH_ready (rs := [1]) (by kernel_rfl) (by simp) ?_
                  refine AllReadyH.cons rfl (fun K hK => ?_) ?_
                  · go_simp
                    refine hK.out _ _ ?_ (fun hHeld => ?_)
                    · (try dsimp only); first | (go_keep; done) | ((repeat' constructor) <;> first | exact cell_keep hb1 (by first | assumption | (simp [*]; done)) | exact cell_freeze (by first | assumption | (simp [*]; done)) _ _)
                    clear hK K
                    (try simp only [Act.put, List.setIfInBounds_toArray, List.set_cons_zero, List.set_cons_succ])
                    refine wpAnyH_ready (rs := [8]) (by kernel_rfl) (by simp) ?_
                    refine AllReadyH.cons rfl (fun K hK => ?_) ?_
                    · go_simp
                      refine hK.out _ _ ?_ (fun hHeld => ?_)
                      · (try dsimp only); first | (go_keep; done) | ((repeat' constructor) <;> first | exact cell_keep hb1 (by first | assumption | (simp [*]; done)) | exact cell_freeze (by first | assumption | (simp [*]; done)) _ _)
                      clear hK K
                      (try simp only [Act.put, List.setIfInBounds_toArray, List.set_cons_zero, List.set_cons_succ])
                      refine wpAnyH_ready (rs := [9]) (by kernel_rfl) (by simp) ?_
                      refine AllReadyH.cons rfl (fun K hK => ?_) ?_
                      · go_simp
                        refine hK.out _ _ ?_ (fun hHeld => ?_)
                        · (try dsimp only); first | (go_keep; done) | ((repeat' constructor) <;> first | exact cell_keep hb1 (by first | assumption | (simp [*]; done)) | exact cell_freeze (by first | assumption | (simp [*]; done)) _ _)
                        clear hK K
                        (try simp only [Act.put, List.setIfInBounds_toArray, List.set_cons_zero, List.set_cons_succ])
                        refine wpAnyH_done (by kernel_rfl) ?_ _
                        go_wp2_with fail
                        go_meet
                        refine ⟨_, _, _, _, rfl, blk_new _ _, ⟨⟨_, _, _, _, rfl, Nat.zero_le _, ?_⟩, ⟨_, _, _, _, rfl, Nat.zero_le _, ?_⟩, ⟨_, _, _, _, rfl, Nat.zero_le _, ?_⟩, trivial⟩, ?_, ?_⟩
                        · repeat (first | ((with_reducible refine Rb.newn ?_ ?_) <;> rfl) | ((with_reducible refine Rb.newn1 ?_ ?_) <;> rfl) | with_reducible refine Rb.alloc ?_ _ | with_reducible refine Rb.freeze ?_ _ _ | with_reducible refine Rb.drew ?_ | ((with_reducible refine Rb.blkn (by assumption) ?_ ?_) <;> rfl) | with_reducible refine Rb.below ?_ (by assumption))
                        · repeat (first | with_reducible assumption | with_reducible refine Rb.alloc ?_ _ | with_reducible refine Rb.freeze ?_ _ _ | with_reducible refine Rb.drew ?_ | with_reducible refine Rb.below ?_ (by assumption))
                        · repeat (first | with_reducible assumption | with_reducible refine Rb.alloc ?_ _ | with_reducible refine Rb.freeze ?_ _ _ | with_reducible refine Rb.drew ?_ | with_reducible refine Rb.below ?_ (by assumption))
                        · unfold Hid; repeat (first | with_reducible exact Below.refl _ _ | with_reducible refine below_alloc' ?_ _ | with_reducible refine Lib.below_freeze ?_ (by dsimp only; omega) _ | with_reducible refine Below.drew ?_ | with_reducible refine below_then ?_ (by assumption))
                        · unfold Hid; repeat (first | with_reducible exact blk_new _ _ | with_reducible refine blk_alloc ?_ _ | with_reducible refine blk_freeze_other ?_ _ _ (by dsimp only; omega) | with_reducible refine blk_drew ?_ | with_reducible refine blk_below ?_ (by assumption))
                      exact AllReadyH.nil
                    exact AllReadyH.nil
                  exact AllReadyH.nil
                exact AllReadyH.nil
              refine AllReadyH.cons rfl (fun K hK => ?_) ?_
              · go_simp
                refine (tagTextS _ _ (by omega) (by omega)).mono ?_
                rintro e w1 ⟨g1, o1, n1, c1, rfl, hg1, hr1, hb1⟩
                have hzz := hb1.size
                (try simp only [size_freeze, size_drew, World.size_alloc] at hzz)
                (first | (have hq := blk_below hq hb1; have hkc := kd.out _ _ _ _ 7 7 hq) | (have hq := lit_atd #[.int .u8 114, .int .u8 101, .int .u8 113, .int .u8 117, .int .u8 101, .int .u8 115, .int .u8 116] 5 hb1; (try simp only [World.size_alloc] at hq); have hkc := kd.out _ _ _ _ 7 7 hq) | (have hq := lit_at #[.int .u8 114, .int .u8 101, .int .u8 113, .int .u8 117, .int .u8 101, .int .u8 115, .int .u8 116] 5 hb1; (try simp only [World.size_alloc] at hq); have hkc := kd.out _ _ _ _ 7 7 hq) | skip)
                go_wp2_with fail
                refine hK.out _ _ ?_ (fun hHeld => ?_)
                · (try dsimp only); first | (go_keep; done) | ((repeat' constructor) <;> first | exact cell_keep hb1 (by first | assumption | (simp [*]; done)) | exact cell_freeze (by first | assumption | (simp [*]; done)) _ _)
                clear hK K
                (try simp only [Act.put, List.setIfInBounds_toArray, List.set_cons_zero, List.set_cons_succ])
                refine wpAnyH_ready (rs := [0]) (by kernel_rfl) (by simp) ?_
                refine AllReadyH.cons rfl (fun K hK => ?_) ?_
                · go_simp
                  refine hK.out _ _ ?_ (fun hHeld => ?_)
                  · (try dsimp only); first | (go_keep; done) | ((repeat' constructor) <;> first | exact cell_keep hb1 (by first | assumption | (simp [*]; done)) | exact cell_freeze (by first | assumption | (simp [*]; done)) _ _)
                  clear hK K
                  (try simp only [Act.put, List.setIfInBounds_toArray, List.set_cons_zero, List.set_cons_succ])
                  refine wpAnyH_ready (rs := [1]) (by kernel_rfl) (by simp) ?_
                  refine AllReadyH.cons rfl (fun K hK => ?_) ?_
                  · go_simp
                    refine hK.out _ _ ?_ (fun hHeld => ?_)
                    · (try dsimp only); first | (go_keep; done) | ((repeat' constructor) <;> first | exact cell_keep hb1 (by first | assumption | (simp [*]; done)) | exact cell_freeze (by first | assumption | (simp [*]; done)) _ _)
                    clear hK K
                    (try simp only [Act.put, List.setIfInBounds_toArray, List.set_cons_zero, List.set_cons_succ])
                    refine wpAnyH_ready (rs := [8]) (by kernel_rfl) (by simp) ?_
                    refine AllReadyH.cons rfl (fun K hK => ?_) ?_
                    · go_simp
                      refine hK.out _ _ ?_ (fun hHeld => ?_)
                      · (try dsimp only); first | (go_keep; done) | ((repeat' constructor) <;> first | exact cell_keep hb1 (by first | assumption | (simp [*]; done)) | exact cell_freeze (by first | assumption | (simp [*]; done)) _ _)
                      clear hK K
                      (try simp only [Act.put, List.setIfInBounds_toArray, List.set_cons_zero, List.set_cons_succ])
                      refine wpAnyH_ready (rs := [9]) (by kernel_rfl) (by simp) ?_
                      refine AllReadyH.cons rfl (fun K hK => ?_) ?_
                      · go_simp
                        refine hK.out _ _ ?_ (fun hHeld => ?_)
                        · (try dsimp only); first | (go_keep; done) | ((repeat' constructor) <;> first | exact cell_keep hb1 (by first | assumption | (simp [*]; done)) | exact cell_freeze (by first | assumption | (simp [*]; done)) _ _)
                        clear hK K
                        (try simp only [Act.put, List.setIfInBounds_toArray, List.set_cons_zero, List.set_cons_succ])
                        refine wpAnyH_done (by kernel_rfl) ?_ _
                        go_wp2_with fail
                        go_meet
                        refine ⟨_, _, _, _, rfl, blk_new _ _, ⟨⟨_, _, _, _, rfl, Nat.zero_le _, ?_⟩, ⟨_, _, _, _, rfl, Nat.zero_le _, ?_⟩, ⟨_, _, _, _, rfl, Nat.zero_le _, ?_⟩, trivial⟩, ?_, ?_⟩
                        · repeat (first | ((with_reducible refine Rb.newn ?_ ?_) <;> rfl) | ((with_reducible refine Rb.newn1 ?_ ?_) <;> rfl) | with_reducible refine Rb.alloc ?_ _ | with_reducible refine Rb.freeze ?_ _ _ | with_reducible refine Rb.drew ?_ | ((with_reducible refine Rb.blkn (by assumption) ?_ ?_) <;> rfl) | with_reducible refine Rb.below ?_ (by assumption))
                        · repeat (first | with_reducible assumption | with_reducible refine Rb.alloc ?_ _ | with_reducible refine Rb.freeze ?_ _ _ | with_reducible refine Rb.drew ?_ | with_reducible refine Rb.below ?_ (by assumption))
                        · repeat (first | with_reducible assumption | with_reducible refine Rb.alloc ?_ _ | with_reducible refine Rb.freeze ?_ _ _ | with_reducible refine Rb.drew ?_ | with_reducible refine Rb.below ?_ (by assumption))
                        · unfold Hid; repeat (first | with_reducible exact Below.refl _ _ | with_reducible refine below_alloc' ?_ _ | with_reducible refine Lib.below_freeze ?_ (by dsimp only; omega) _ | with_reducible refine Below.drew ?_ | with_reducible refine below_then ?_ (by assumption))
                        · unfold Hid; repeat (first | with_reducible exact blk_new _ _ | with_reducible refine blk_alloc ?_ _ | with_reducible refine blk_freeze_other ?_ _ _ (by dsimp only; omega) | with_reducible refine blk_drew ?_ | with_reducible refine blk_below ?_ (by assumption))
                      exact AllReadyH.nil
                    exact AllReadyH.nil
                  exact AllReadyH.nil
                exact AllReadyH.nil
              exact AllReadyH.nil
            exact AllReadyH.nil
          case rest =>
            obtain ⟨g, v1, v2, v3, rfl, hbk, hfv, hbx, hbox⟩ := hcut
            have P1 := Hid.mk VBk.out.p
            have P2 := Hid.mk VBk.out.p'
            have hsm := Hid.mk (reqL_small VBk.out)
            have q2 := blk_cell hbox.out 2
            have q3 := blk_cell hbox.out 3
            have q4 := blk_cell hbox.out 4
            have q5 := blk_cell hbox.out 5
            have q6 := blk_cell hbox.out 6
            have q7 := blk_cell hbox.out 7
            have q8 := blk_cell hbox.out 8
            have q9 := blk_cell hbox.out 9
            have q10 := blk_cell hbox.out 10
            have q11 := blk_cell hbox.out 11
            simp only [List.getElem?_toArray, List.getElem?_cons_zero, List.getElem?_cons_succ] at q2 q3 q4 q5 q6 q7 q8 q9 q10 q11
            clear x0 e0 e1 e2 e3 e4 e5 e6 e7 e8 e9 e10 e11
            have HO1 := Hid.mk (Own.below ho.out hbx.out)
            have HB1 := Hid.mk (below_then hb.out hbx.out)
            have HX1 := Hid.mk (blk_below hx.out hbx.out)
            clear ho hb hx hbx
            go_wp2_with (go_at_call 69; refine (placeFieldsS _ _ _ _ _ _ P1.out.x P1.out.y P1.out.o P1.out.c P1.out.h).mono ?_; rintro e w1 ⟨g1, p1, p2, p3, p4, p5, rfl, hblk1, hfv1, hb1⟩; refine Hid.out ?_)
            refine Lib.hid ?_
            have HO2 := Hid.mk (Own.below HO1.out hb1)
            have HB2 := Hid.mk (below_then HB1.out hb1)
            have HX2 := Hid.mk (blk_below HX1.out hb1)
            have HA := Hid.mk (FVs.append (FVs.below hb1 hfv.out) (FVs.low hfv1))
            have C1 := Hid.mk (cells_of_blk (vs := [v1, v2, v3]) (blk_below hbk.out hb1))
            have C2 := Hid.mk (cells_of_blk (vs := [p1, p2, p3, p4, p5]) hblk1)
            have O2 := Hid.mk (FVs.one hfv1)
            have hbox1 := Hid.mk (blk_below hbox.out hb1)
            clear hb1 hblk1 hfv1 hfv hbk HO1 HB1 HX1 hbox q2 q3 q4 q5 q6 q7 q8 q9 q10 q11
            go_wp2_with (at_builtin; refine wpList_append_grows _ rfl _ _ 105 rfl 28 j0 (.slice none 0 0) 1 24 Tryd.underlying105 hj hy0 hy1 hy2 rfl (by decide) (some ⟨g, 0, none⟩) 3 3 [v1, v2, v3] rfl (by intro h; cases h) rfl (by intro b hb; injection hb with hb; subst hb; exact C1.out) ⟨g1, 0, none⟩ 5 5 [p1, p2, p3, p4, p5] rfl rfl C2.out O2.out (by omega) (by unfold maxLen; omega) (by omega) ?_)
            intro vf w2 hownf hgrowf
            have hb2 := below_grows hgrowf
            obtain ⟨g2, cap2, hvf⟩ := Joins.ownsRow_form hownf (by omega)
            rw [hvf] at hownf ⊢
            have HBw := Hid.mk hb2
            have hw12 := hb2.size
            have hg2 := hownf.lt g2 rfl
            have hbox2 := Hid.mk (blk_below hbox1.out hb2)
            have HW := Hid.mk hownf
            clear hownf hgrowf hvf hb2 C1 C2 O2 hbox1
            have q7 := blk_cell hbox2.out 7
            have q8 := blk_cell hbox2.out 8
            have q9 := blk_cell hbox2.out 9
            have q10 := blk_cell hbox2.out 10
            have q11 := blk_cell hbox2.out 11
            simp only [List.getElem?_toArray, List.getElem?_cons_zero, List.getElem?_cons_succ] at q7 q8 q9 q10 q11
            go_wp2_with (go_at_call 69; refine (placeFieldsS _ _ _ _ _ _ P2.out.x P2.out.y P2.out.o P2.out.c P2.out.h).mono ?_; rintro e w5 ⟨g5, p6, p7, p8, p9, p10, rfl, hblk5, hfv5, hb5⟩; refine Hid.out ?_)
            refine Lib.hid ?_
            have HBw5 := Hid.mk (HBw.out.trans (hb5.mono hw12))
            have C5 := Hid.mk (cells_of_blk (vs := [p6, p7, p8, p9, p10]) hblk5)
            have O5 := Hid.mk (FVs.one hfv5)
            have HV5 := Hid.mk hfv5
            have HW5 := Hid.mk (ownsRow_below HW.out hb5)
            have hw25 := hb5.size
            clear hb5 hblk5 hfv5 HBw HW hbox2 q7 q8 q9 q10 q11
            go_wp2_with (at_builtin; refine wpList_append_own _ rfl _ _ 105 rfl w1.heap.size 28 j0 (.slice none 0 0) 1 24 Tryd.underlying105 hj hy0 hy1 hy2 rfl (by decide) _ _ _ rfl HW5.out ⟨g5, 0, none⟩ 5 5 [p6, p7, p8, p9, p10] rfl rfl C5.out O5.out (by unfold maxLen; omega) (by omega) (by omega) ?_)
            intro vg w6 howng hgrowg _
            have hb6 := HBw5.out.grown hgrowg (by omega) (fun k hk => (HW5.out.lt k hk).1)
            obtain ⟨g6, cap6, hvg⟩ := Joins.ownsRow_form howng (by omega)
            have C3 := Hid.mk (howng.cells (g := g6) (by rw [hvg]; rfl))
            rw [hvg]
            have HO3 := Hid.mk (Own.below HO2.out hb6)
            have HB3 := Hid.mk (below_then HB2.out hb6)
            have HX3 := Hid.mk (blk_below HX2.out hb6)
            have HF := Hid.mk (FVs.append (FVs.below hb6 HA.out) (FVs.low (FVs.grown hgrowg (fun k hk => by have e : some g2 = some k := hk; injection e with e; subst e; exact hg2.2) HV5.out)))
            clear howng hgrowg hvg hb6 HO2 HB2 HX2 HA C5 O5 HV5 HW5 HBw5
            go_wp2_with (go_at_call 70; refine (joinN (reqL (I.Q k)) _ g6 0 cap6 _ w6 rfl HF.out C3.out (by simp [reqL]) hsm.out).mono ?_; rintro e w3 ⟨g3, o3, m3, d3, rfl, hr3, hb3⟩; refine Hid.out ?_)
            refine Lib.hid ?_
            have HO4 := Hid.mk (Own.below HO3.out hb3)
            have HB4 := Hid.mk (below_then HB3.out hb3)
            have HX4 := Hid.mk (blk_below HX3.out hb3)
            have hln : m3 ≤ 600 := by rw [hr3.1]; exact line_len (by simp [reqL]) hsm.out
            have HR := Hid.mk hr3
            have hz4 := blk_lt HX4.out
            clear hr3 hb3 HO3 HB3 HX3 C3 HF
            go_wp2_with (at_builtin; refine wpList_append_own _ rfl _ _ 28 rfl (w.heap.size + 1) 5 i0 (.int .u8 0) 1 1 Tryd.underlying28 hi hz0 hz1 hz2 rfl (by decide) _ _ _ rfl HO4.out ⟨g3, o3, none⟩ m3 d3 (Lib.byteCells (line (reqL (I.Q k)))) rfl (by simp [Lib.byteCells]; exact HR.out.1.symm) HR.out.2.2 (byteCells_one _) (by unfold maxLen; omega) (by omega) (by omega) ?_)
            intro v4 w4 hown4 hgrow4 _
            have HO5 : Hid (Own (w.heap.size + 1) w4 v4 (rowsQ I (k + 1))) := by rw [rowsQ_succ]; exact own_app HR.out.1 hown4
            have HB5 : Hid (Below w.heap.size w w4) := HB4.out.grown hgrow4 HB4.out.size (fun k hk => Nat.le_of_succ_le (HO4.out.lt k hk).1)
            have HX5 := Hid.mk (blk_grown HX4.out hgrow4 (fun e => by have := (HO4.out.lt _ e).1; omega))
            clear hown4 hgrow4
            go_wp2
            exact ⟨⟨k + 1, by omega, by go_num, HO5, HB5, HX5⟩, by simp [intOf]; omega⟩
        · have hkn : k = I.nQ := by omega
          subst hkn
          go_wp2
          clear x0 hlt
          obtain ⟨wo, hwo⟩ : ∃ wo : World, wo = wr := ⟨_, rfl⟩
          rw [← hwo] at hb hx ho ⊢
          clear hwo hl hwz hk
          go_loopw [3, 10] (fun v i wr => ∃ k : Nat, k ≤ I.nR ∧ i = .int .i64 k ∧ Hid (Own (w.heap.size + 1) wr v (rowsR I k)) ∧ Hid (Below w.heap.size w wr) ∧ Hid (wr.heap[w.heap.size]? = some (.cells #[.slice a1 I.nV c1, .slice a2 I.nQ c2, .slice a3 I.nR c3] 34))) (fun _ i _ => I.nR - (intOf i).toNat)
          case atStart => exact ⟨0, Nat.zero_le _, rfl, by rw [rowsR_zero]; exact ho, hb, hx⟩
          case round =>
            clear hb hx ho
            obtain ⟨k, hk, rfl, ho, hb, hx⟩ := hrel
            have hl := rowsR_len G.out hk
            have hwz := blk_lt hx.out
            obtain ⟨a, ca, hv⟩ := Own.shape ho.out
            rw [hv] at ho ⊢
            clear hv
            have x0 := blk_cell hx.out 2
            simp only [List.getElem?_toArray, List.getElem?_cons_zero, List.getElem?_cons_succ] at x0
            by_cases hlt : k < I.nR
            · rcases H.out.r with hs | ⟨b, off, rfl, hs⟩
              · omega
              obtain ⟨e0, e1, e2⟩ := Rd.at (rangeAt_below (hs k hlt) hb.out)
              clear hs
              have VBk := Hid.mk (G.out.r k hlt)
              have hb0 := VBk.out.a
              have hb1' := VBk.out.b
              have hb2' := VBk.out.t
              have hsm := Hid.mk (rdL_small VBk.out)
              go_upto_region 21 with fail
              clear x0 e0 e1 e2
              refine wp_region_held_drew (S := (fun w' => w'.cell? ⟨wr.heap.size, 0, none⟩ = some (.int .i64 (I.R k).a) ∧ w'.cell? ⟨wr.heap.size, 1, none⟩ = some (.int .i64 (I.R k).b) ∧ w'.cell? ⟨wr.heap.size, 2, none⟩ = some (.int .i64 (I.R k).t))) (by kernel_rfl) ?_ (fun hHeld => ?_)
              · go_keep
              refine wpAnyH_take (i := 0) (v := ?_) rfl (by kernel_rfl) (by kernel_rfl) (by kernel_rfl) (fun _ _ _ h => h) (Or.inl ⟨by rfl, ?_⟩) (by assumption) ?_
              rotate_left
              · intro w hSw; (try dsimp only at hSw); go_simp; (try with_reducible rfl)
              rotate_left
              simp only [Act.put, List.setIfInBounds_toArray, List.set_cons_zero, List.set_cons_succ]
              refine wpAnyH_take (i := 3) (v := ?_) rfl (by kernel_rfl) (by kernel_rfl) (by kernel_rfl) (fun _ _ _ h => h) (Or.inl ⟨by rfl, ?_⟩) (by assumption) ?_
              rotate_left
              · intro w hSw; (try dsimp only at hSw); go_simp; (try with_reducible rfl)
              rotate_left
              simp only [Act.put, List.setIfInBounds_toArray, List.set_cons_zero, List.set_cons_succ]
              refine wpAnyH_take (i := 4) (v := ?_) rfl (by kernel_rfl) (by kernel_rfl) (by kernel_rfl) (fun _ _ _ h => h) (Or.inl ⟨by rfl, ?_⟩) (by assumption) ?_
              rotate_left
              · intro w hSw; (try dsimp only at hSw); go_simp; (try with_reducible rfl)
              rotate_left
              simp only [Act.put, List.setIfInBounds_toArray, List.set_cons_zero, List.set_cons_succ]
              refine wpAnyH_take (i := 6) (v := ?_) rfl (by kernel_rfl) (by kernel_rfl) (by kernel_rfl) (fun _ _ _ h => h) (Or.inl ⟨by rfl, ?_⟩) (by assumption) ?_
              rotate_left
              · intro w hSw; (try dsimp only at hSw); go_simp; (try with_reducible rfl)
              rotate_left
              simp only [Act.put, List.setIfInBounds_toArray, List.set_cons_zero, List.set_cons_succ]
              refine wpAnyH_take (i := 7) (v := ?_) rfl (by kernel_rfl) (by kernel_rfl) (by kernel_rfl) (fun _ _ _ h => h) (Or.inl ⟨by rfl, ?_⟩) (by assumption) ?_
              rotate_left
              · intro w hSw; (try dsimp only at hSw); go_simp; (try with_reducible rfl)
              rotate_left
              simp only [Act.put, List.setIfInBounds_toArray, List.set_cons_zero, List.set_cons_succ]
              refine wpAnyH_take (i := 9) (v := ?_) rfl (by kernel_rfl) (by kernel_rfl) (by kernel_rfl) (fun _ _ _ h => h) (Or.inl ⟨by rfl, ?_⟩) (by assumption) ?_
              rotate_left
              · intro w hSw; (try dsimp only at hSw); go_simp; (try with_reducible rfl)
              rotate_left
              simp only [Act.put, List.setIfInBounds_toArray, List.set_cons_zero, List.set_cons_succ]
              refine wpAnyH_take (i := 10) (v := ?_) rfl (by kernel_rfl) (by kernel_rfl) (by kernel_rfl) (fun _ _ _ h => h) (Or.inl ⟨by rfl, ?_⟩) (by assumption) ?_
              rotate_left
              · intro w hSw; (try dsimp only at hSw); go_simp; (try with_reducible rfl)
              rotate_left
              simp only [Act.put, List.setIfInBounds_toArray, List.set_cons_zero, List.set_cons_succ]
              refine wpAnyH_ready (rs := [1, 5]) (by kernel_rfl) (by simp) ?_
              refine AllReadyH.cons rfl (fun K hK => ?_) ?_
              · go_simp
                refine hK.out _ _ ?_ (fun hHeld => ?_)
                · (try dsimp only); first | (go_keep; done) | ((repeat' constructor) <;> first | exact cell_keep hb1 (by first | assumption | (simp [*]; done)) | exact cell_freeze (by first | assumption | (simp [*]; done)) _ _ | exact World.grownBy.cell HG4.out (by first | assumption | (simp [*]; done)) (fun e => by have := (ho.out.lt _ e.symm).2; dsimp only at this; omega))
                clear hK K
                (try simp only [Act.put, List.setIfInBounds_toArray, List.set_cons_zero, List.set_cons_succ])
                refine wpAnyH_ready (rs := [2, 5]) (by kernel_rfl) (by simp) ?_
                refine AllReadyH.cons rfl (fun K hK => ?_) ?_
                · go_simp
                  refine hK.out _ _ ?_ (fun hHeld => ?_)
                  · (try dsimp only); first | (go_keep; done) | ((repeat' constructor) <;> first | exact cell_keep hb1 (by first | assumption | (simp [*]; done)) | exact cell_freeze (by first | assumption | (simp [*]; done)) _ _ | exact World.grownBy.cell HG4.out (by first | assumption | (simp [*]; done)) (fun e => by have := (ho.out.lt _ e.symm).2; dsimp only at this; omega))
                  clear hK K
                  (try simp only [Act.put, List.setIfInBounds_toArray, List.set_cons_zero, List.set_cons_succ])
                  refine wpAnyH_ready (rs := [5]) (by kernel_rfl) (by simp) ?_
                  refine AllReadyH.cons rfl (fun K hK => ?_) ?_
                  · go_simp
                    refine (decimalR _ _ (by omega) (by omega)).mono ?_
                    rintro e w1 ⟨g1, o1, n1, c1, rfl, hg1, hr1, hb1⟩
                    have hzz := hb1.size
                    (try simp only [size_freeze, size_drew, World.size_alloc] at hzz)
                    (first | (have hq := blk_below hq hb1; have hkc := kd.out _ _ _ _ 4 4 hq) | (have hq := lit_atd #[.int .u8 114, .int .u8 111, .int .u8 97, .int .u8 100] 5 hb1; (try simp only [World.size_alloc] at hq); have hkc := kd.out _ _ _ _ 4 4 hq) | (have hq := lit_at #[.int .u8 114, .int .u8 111, .int .u8 97, .int .u8 100] 5 hb1; (try simp only [World.size_alloc] at hq); have hkc := kd.out _ _ _ _ 4 4 hq) | skip)
                    go_wp2_with fail
                    refine hK.out _ _ ?_ (fun hHeld => ?_)
                    · (try dsimp only); first | (go_keep; done) | ((repeat' constructor) <;> first | exact cell_keep hb1 (by first | assumption | (simp [*]; done)) | exact cell_freeze (by first | assumption | (simp [*]; done)) _ _ | exact World.grownBy.cell HG4.out (by first | assumption | (simp [*]; done)) (fun e => by have := (ho.out.lt _ e.symm).2; dsimp only at this; omega))
                    clear hK K
                    (try simp only [Act.put, List.setIfInBounds_toArray, List.set_cons_zero, List.set_cons_succ])
                    refine wpAnyH_ready (rs := [8]) (by kernel_rfl) (by simp) ?_
                    refine AllReadyH.cons rfl (fun K hK => ?_) ?_
                    · go_simp
                      refine (decimalR _ _ (by omega) (by omega)).mono ?_
                      rintro e w1 ⟨g1, o1, n1, c1, rfl, hg1, hr1, hb1⟩
                      have hzz := hb1.size
                      (try simp only [size_freeze, size_drew, World.size_alloc] at hzz)
                      (first | (have hq := blk_below hq hb1; have hkc := kd.out _ _ _ _ 4 4 hq) | (have hq := lit_atd #[.int .u8 114, .int .u8 111, .int .u8 97, .int .u8 100] 5 hb1; (try simp only [World.size_alloc] at hq); have hkc := kd.out _ _ _ _ 4 4 hq) | (have hq := lit_at #[.int .u8 114, .int .u8 111, .int .u8 97, .int .u8 100] 5 hb1; (try simp only [World.size_alloc] at hq); have hkc := kd.out _ _ _ _ 4 4 hq) | skip)
                      go_wp2_with fail
                      refine hK.out _ _ ?_ (fun hHeld => ?_)
                      · (try dsimp only); first | (go_keep; done) | ((repeat' constructor) <;> first | exact cell_keep hb1 (by first | assumption | (simp [*]; done)) | exact cell_freeze (by first | assumption | (simp [*]; done)) _ _ | exact World.grownBy.cell HG4.out (by first | assumption | (simp [*]; done)) (fun e => by have := (ho.out.lt _ e.symm).2; dsimp only at this; omega))
                      clear hK K
                      (try simp only [Act.put, List.setIfInBounds_toArray, List.set_cons_zero, List.set_cons_succ])
                      refine wpAnyH_ready (rs := [11]) (by kernel_rfl) (by simp) ?_
                      refine AllReadyH.cons rfl (fun K hK => ?_) ?_
                      · go_simp
                        refine (decimalR _ _ (by omega) (by omega)).mono ?_
                        rintro e w1 ⟨g1, o1, n1, c1, rfl, hg1, hr1, hb1⟩
                        have hzz := hb1.size
                        (try simp only [size_freeze, size_drew, World.size_alloc] at hzz)
                        (first | (have hq := blk_below hq hb1; have hkc := kd.out _ _ _ _ 4 4 hq) | (have hq := lit_atd #[.int .u8 114, .int .u8 111, .int .u8 97, .int .u8 100] 5 hb1; (try simp only [World.size_alloc] at hq); have hkc := kd.out _ _ _ _ 4 4 hq) | (have hq := lit_at #[.int .u8 114, .int .u8 111, .int .u8 97, .int .u8 100] 5 hb1; (try simp only [World.size_alloc] at hq); have hkc := kd.out _ _ _ _ 4 4 hq) | skip)
                        go_wp2_with fail
                        refine hK.out _ _ ?_ (fun hHeld => ?_)
                        · (try dsimp only); first | (go_keep; done) | ((repeat' constructor) <;> first | exact cell_keep hb1 (by first | assumption | (simp [*]; done)) | exact cell_freeze (by first | assumption | (simp [*]; done)) _ _ | exact World.grownBy.cell HG4.out (by first | assumption | (simp [*]; done)) (fun e => by have := (ho.out.lt _ e.symm).2; dsimp only at this; omega))
                        clear hK K
                        (try simp only [Act.put, List.setIfInBounds_toArray, List.set_cons_zero, List.set_cons_succ])
                        refine wpAnyH_ready (rs := [12]) (by kernel_rfl) (by simp) ?_
                        refine AllReadyH.cons rfl (fun K hK => ?_) ?_
                        · go_simp
                          refine hK.out _ _ ?_ (fun hHeld => ?_)
                          · (try dsimp only); first | (go_keep; done) | ((repeat' constructor) <;> first | exact cell_keep hb1 (by first | assumption | (simp [*]; done)) | exact cell_freeze (by first | assumption | (simp [*]; done)) _ _ | exact World.grownBy.cell HG4.out (by first | assumption | (simp [*]; done)) (fun e => by have := (ho.out.lt _ e.symm).2; dsimp only at this; omega))
                          clear hK K
                          (try simp only [Act.put, List.setIfInBounds_toArray, List.set_cons_zero, List.set_cons_succ])
                          refine wpAnyH_ready (rs := [13]) (by kernel_rfl) (by simp) ?_
                          refine AllReadyH.cons rfl (fun K hK => ?_) ?_
                          · go_simp
                            refine (joinN (rdL (I.R k)) _ _ 0 4 4 _ rfl ?hF (cells_of_blk (blk_new _ _)) (by simp [rdL]) hsm.out).mono ?_
                            case hF =>
                              refine ⟨⟨_, _, _, _, rfl, Nat.zero_le _, ?_⟩, ⟨_, _, _, _, rfl, Nat.zero_le _, ?_⟩, ⟨_, _, _, _, rfl, Nat.zero_le _, ?_⟩, ⟨_, _, _, _, rfl, Nat.zero_le _, ?_⟩, trivial⟩
                              · repeat (first | ((with_reducible refine Rb.newn ?_ ?_) <;> rfl) | ((with_reducible refine Rb.newn1 ?_ ?_) <;> rfl) | with_reducible refine Rb.alloc ?_ _ | with_reducible refine Rb.freeze ?_ _ _ | with_reducible refine Rb.drew ?_ | ((with_reducible refine Rb.blkn (by assumption) ?_ ?_) <;> rfl) | with_reducible refine Rb.below ?_ (by assumption))
                              · repeat (first | with_reducible assumption | with_reducible refine Rb.alloc ?_ _ | with_reducible refine Rb.freeze ?_ _ _ | with_reducible refine Rb.drew ?_ | with_reducible refine Rb.below ?_ (by assumption))
                              · repeat (first | with_reducible assumption | with_reducible refine Rb.alloc ?_ _ | with_reducible refine Rb.freeze ?_ _ _ | with_reducible refine Rb.drew ?_ | with_reducible refine Rb.below ?_ (by assumption))
                              · repeat (first | with_reducible assumption | with_reducible refine Rb.alloc ?_ _ | with_reducible refine Rb.freeze ?_ _ _ | with_reducible refine Rb.drew ?_ | with_reducible refine Rb.below ?_ (by assumption))
                            rintro e w1 ⟨g3, o3, m3, d3, rfl, hr3, hb1⟩
                            have hzz := hb1.size
                            (try simp only [size_freeze, size_drew, World.size_alloc] at hzz)
                            have hln : m3 ≤ 600 := by rw [hr3.1]; exact line_len (by simp [rdL]) hsm.out
                            have HR3 := Hid.mk hr3
                            clear hr3
                            go_wp2_with fail
                            refine hK.out _ _ ?_ (fun hHeld => ?_)
                            · (try dsimp only); first | (go_keep; done) | ((repeat' constructor) <;> first | exact cell_keep hb1 (by first | assumption | (simp [*]; done)) | exact cell_freeze (by first | assumption | (simp [*]; done)) _ _ | exact World.grownBy.cell HG4.out (by first | assumption | (simp [*]; done)) (fun e => by have := (ho.out.lt _ e.symm).2; dsimp only at this; omega))
                            clear hK K
                            (try simp only [Act.put, List.setIfInBounds_toArray, List.set_cons_zero, List.set_cons_succ])
                            refine wpAnyH_ready (rs := [14]) (by kernel_rfl) (by simp) ?_
                            refine AllReadyH.cons rfl (fun K hK => ?_) ?_
                            · rw [if_pos (by rfl)]
                              refine wp_append_own _ _ _ 28 rfl (w.heap.size + 1) 5 i0 (.int .u8 0) 1 1 Tryd.underlying28 hi hz0 hz1 hz2 rfl (by decide) _ _ _ rfl (Own.below ho.out (by repeat (first | with_reducible exact Below.refl _ _ | with_reducible refine below_alloc' ?_ _ | with_reducible refine Lib.below_freeze ?_ (by dsimp only; omega) _ | with_reducible refine Below.drew ?_ | with_reducible refine below_then ?_ (by assumption)))) ⟨g3, o3, none⟩ m3 d3 (Lib.byteCells (line (rdL (I.R k)))) rfl (by simp [Lib.byteCells]; exact HR3.out.1.symm) HR3.out.2.2 (byteCells_one _) (by unfold maxLen; omega) (by omega) (by omega) ?_
                              intro v4 w4 hown4 hgrow4 _
                              have HO5 : Hid (Own (w.heap.size + 1) w4 v4 (rowsR I (k + 1))) := by rw [rowsR_succ]; exact own_app HR3.out.1 hown4
                              have HB5 : Hid (Below w.heap.size w w4) := (below_then hb.out (by repeat (first | with_reducible exact Below.refl _ _ | with_reducible refine below_alloc' ?_ _ | with_reducible refine Lib.below_freeze ?_ (by dsimp only; omega) _ | with_reducible refine Below.drew ?_ | with_reducible refine below_then ?_ (by assumption)))).grown hgrow4 (by omega) (fun k hk => Nat.le_of_succ_le (ho.out.lt k hk).1)
                              have HX5 := Hid.mk (blk_grown (blk_below hx.out (by repeat (first | with_reducible exact Below.refl _ _ | with_reducible refine below_alloc' ?_ _ | with_reducible refine Lib.below_freeze ?_ (by dsimp only; omega) _ | with_reducible refine Below.drew ?_ | with_reducible refine below_then ?_ (by assumption)))) hgrow4 (fun e => by have := (ho.out.lt _ e).1; omega))
                              have HG4 := Hid.mk hgrow4
                              clear hown4 hgrow4
                              refine hK.out _ _ ?_ (fun hHeld => ?_)
                              · (try dsimp only); first | (go_keep; done) | ((repeat' constructor) <;> first | exact cell_keep hb1 (by first | assumption | (simp [*]; done)) | exact cell_freeze (by first | assumption | (simp [*]; done)) _ _ | exact World.grownBy.cell HG4.out (by first | assumption | (simp [*]; done)) (fun e => by have := (ho.out.lt _ e.symm).2; dsimp only at this; omega))
                              clear hK K
                              (try simp only [Act.put, List.setIfInBounds_toArray, List.set_cons_zero, List.set_cons_succ])
                              refine wpAnyH_ready (rs := [15]) (by kernel_rfl) (by simp) ?_
                              refine AllReadyH.cons rfl (fun K hK => ?_) ?_
                              · go_simp
                                refine hK.out _ _ ?_ (fun hHeld => ?_)
                                · (try dsimp only); first | (go_keep; done) | ((repeat' constructor) <;> first | exact cell_keep hb1 (by first | assumption | (simp [*]; done)) | exact cell_freeze (by first | assumption | (simp [*]; done)) _ _ | exact World.grownBy.cell HG4.out (by first | assumption | (simp [*]; done)) (fun e => by have := (ho.out.lt _ e.symm).2; dsimp only at this; omega))
                                clear hK K
                                (try simp only [Act.put, List.setIfInBounds_toArray, List.set_cons_zero, List.set_cons_succ])
                                refine wpAnyH_done (by kernel_rfl) ?_ _
                                go_wp2
                                exact ⟨⟨k + 1, by omega, by go_num, HO5, HB5, HX5⟩, by simp [intOf]; omega⟩
                              exact AllReadyH.nil
                            exact AllReadyH.nil
                          exact AllReadyH.nil
                        exact AllReadyH.nil
                      exact AllReadyH.nil
                    exact AllReadyH.nil
                  exact AllReadyH.nil
                refine AllReadyH.cons rfl (fun K hK => ?_) ?_
                · go_simp
                  refine (decimalR _ _ (by omega) (by omega)).mono ?_
                  rintro e w1 ⟨g1, o1, n1, c1, rfl, hg1, hr1, hb1⟩
                  have hzz := hb1.size
                  (try simp only [size_freeze, size_drew, World.size_alloc] at hzz)
                  (first | (have hq := blk_below hq hb1; have hkc := kd.out _ _ _ _ 4 4 hq) | (have hq := lit_atd #[.int .u8 114, .int .u8 111, .int .u8 97, .int .u8 100] 5 hb1; (try simp only [World.size_alloc] at hq); have hkc := kd.out _ _ _ _ 4 4 hq) | (have hq := lit_at #[.int .u8 114, .int .u8 111, .int .u8 97, .int .u8 100] 5 hb1; (try simp only [World.size_alloc] at hq); have hkc := kd.out _ _ _ _ 4 4 hq) | skip)
                  go_wp2_with fail
                  refine hK.out _ _ ?_ (fun hHeld => ?_)
                  · (try dsimp only); first | (go_keep; done) | ((repeat' constructor) <;> first | exact cell_keep hb1 (by first | assumption | (simp [*]; done)) | exact cell_freeze (by first | assumption | (simp [*]; done)) _ _ | exact World.grownBy.cell HG4.out (by first | assumption | (simp [*]; done)) (fun e => by have := (ho.out.lt _ e.symm).2; dsimp only at this; omega))
                  clear hK K
                  (try simp only [Act.put, List.setIfInBounds_toArray, List.set_cons_zero, List.set_cons_succ])
                  refine wpAnyH_ready (rs := [2, 8]) (by kernel_rfl) (by simp) ?_
                  refine AllReadyH.cons rfl (fun K hK => ?_) ?_
                  · go_simp
                    refine hK.out _ _ ?_ (fun hHeld => ?_)
                    · (try dsimp only); first | (go_keep; done) | ((repeat' constructor) <;> first | exact cell_keep hb1 (by first | assumption | (simp [*]; done)) | exact cell_freeze (by first | assumption | (simp [*]; done)) _ _ | exact World.grownBy.cell HG4.out (by first | assumption | (simp [*]; done)) (fun e => by have := (ho.out.lt _ e.symm).2; dsimp only at this; omega))
                    clear hK K
                    (try simp only [Act.put, List.setIfInBounds_toArray, List.set_cons_zero, List.set_cons_succ])
                    refine wpAnyH_ready (rs := [8]) (by kernel_rfl) (by simp) ?_
                    refine AllReadyH.cons rfl (fun K hK => ?_) ?_
                    · go_simp
                      refine (decimalR _ _ (by omega) (by omega)).mono ?_
                      rintro e w1 ⟨g1, o1, n1, c1, rfl, hg1, hr1, hb1⟩
                      have hzz := hb1.size
                      (try simp only [size_freeze, size_drew, World.size_alloc] at hzz)
                      (first | (have hq := blk_below hq hb1; have hkc := kd.out _ _ _ _ 4 4 hq) | (have hq := lit_atd #[.int .u8 114, .int .u8 111, .int .u8 97, .int .u8 100] 5 hb1; (try simp only [World.size_alloc] at hq); have hkc := kd.out _ _ _ _ 4 4 hq) | (have hq := lit_at #[.int .u8 114, .int .u8 111, .int .u8 97, .int .u8 100] 5 hb1; (try simp only [World.size_alloc] at hq); have hkc := kd.out _ _ _ _ 4 4 hq) | skip)
                      go_wp2_with fail
                      refine hK.out _ _ ?_ (fun hHeld => ?_)
                      · (try dsimp only); first | (go_keep; done) | ((repeat' constructor) <;> first | exact cell_keep hb1 (by first | assumption | (simp [*]; done)) | exact cell_freeze (by first | assumption | (simp [*]; done)) _ _ | exact World.grownBy.cell HG4.out (by first | assumption | (simp [*]; done)) (fun e => by have := (ho.out.lt _ e.symm).2; dsimp only at this; omega))
                      clear hK K
                      (try simp only [Act.put, List.setIfInBounds_toArray, List.set_cons_zero, List.set_cons_succ])
                      refine wpAnyH_ready (rs := [11]) (by kernel_rfl) (by simp) ?_
                      refine AllReadyH.cons rfl (fun K hK => ?_) ?_
                      · go_simp
                        refine (decimalR _ _ (by omega) (by omega)).mono ?_
                        rintro e w1 ⟨g1, o1, n1, c1, rfl, hg1, hr1, hb1⟩
                        have hzz := hb1.size
                        (try simp only [size_freeze, size_drew, World.size_alloc] at hzz)
                        (first | (have hq := blk_below hq hb1; have hkc := kd.out _ _ _ _ 4 4 hq) | (have hq := lit_atd #[.int .u8 114, .int .u8 111, .int .u8 97, .int .u8 100] 5 hb1; (try simp only [World.size_alloc] at hq); have hkc := kd.out _ _ _ _ 4 4 hq) | (have hq := lit_at #[.int .u8 114, .int .u8 111, .int .u8 97, .int .u8 100] 5 hb1; (try simp only [World.size_alloc] at hq); have hkc := kd.out _ _ _ _ 4 4 hq) | skip)
                        go_wp2_with fail
                        refine hK.out _ _ ?_ (fun hHeld => ?_)
                        · (try dsimp only); first | (go_keep; done) | ((repeat' constructor) <;> first | exact cell_keep hb1 (by first | assumption | (simp [*]; done)) | exact cell_freeze (by first | assumption | (simp [*]; done)) _ _ | exact World.grownBy.cell HG4.out (by first | assumption | (simp [*]; done)) (fun e => by have := (ho.out.lt _ e.symm).2; dsimp only at this; omega))
                        clear hK K
                        (try simp only [Act.put, List.setIfInBounds_toArray, List.set_cons_zero, List.set_cons_succ])
                        refine wpAnyH_ready (rs := [12]) (by kernel_rfl) (by simp) ?_
                        refine AllReadyH.cons rfl (fun K hK => ?_) ?_
                        · go_simp
                          refine hK.out _ _ ?_ (fun hHeld => ?_)
                          · (try dsimp only); first | (go_keep; done) | ((repeat' constructor) <;> first | exact cell_keep hb1 (by first | assumption | (simp [*]; done)) | exact cell_freeze (by first | assumption | (simp [*]; done)) _ _ | exact World.grownBy.cell HG4.out (by first | assumption | (simp [*]; done)) (fun e => by have := (ho.out.lt _ e.symm).2; dsimp only at this; omega))
                          clear hK K
                          (try simp only [Act.put, List.setIfInBounds_toArray, List.set_cons_zero, List.set_cons_succ])
                          refine wpAnyH_ready (rs := [13]) (by kernel_rfl) (by simp) ?_
                          refine AllReadyH.cons rfl (fun K hK => ?_) ?_
                          · go_simp
                            refine (joinN (rdL (I.R k)) _ _ 0 4 4 _ rfl ?hF (cells_of_blk (blk_new _ _)) (by simp [rdL]) hsm.out).mono ?_
                            case hF =>
                              refine ⟨⟨_, _, _, _, rfl, Nat.zero_le _, ?_⟩, ⟨_, _, _, _, rfl, Nat.zero_le _, ?_⟩, ⟨_, _, _, _, rfl, Nat.zero_le _, ?_⟩, ⟨_, _, _, _, rfl, Nat.zero_le _, ?_⟩, trivial⟩
                              · repeat (first | ((with_reducible refine Rb.newn ?_ ?_) <;> rfl) | ((with_reducible refine Rb.newn1 ?_ ?_) <;> rfl) | with_reducible refine Rb.alloc ?_ _ | with_reducible refine Rb.freeze ?_ _ _ | with_reducible refine Rb.drew ?_ | ((with_reducible refine Rb.blkn (by assumption) ?_ ?_) <;> rfl) | with_reducible refine Rb.below ?_ (by assumption))
                              · repeat (first | with_reducible assumption | with_reducible refine Rb.alloc ?_ _ | with_reducible refine Rb.freeze ?_ _ _ | with_reducible refine Rb.drew ?_ | with_reducible refine Rb.below ?_ (by assumption))
                              · repeat (first | with_reducible assumption | with_reducible refine Rb.alloc ?_ _ | with_reducible refine Rb.freeze ?_ _ _ | with_reducible refine Rb.drew ?_ | with_reducible refine Rb.below ?_ (by assumption))
                              · repeat (first | with_reducible assumption | with_reducible refine Rb.alloc ?_ _ | with_reducible refine Rb.freeze ?_ _ _ | with_reducible refine Rb.drew ?_ | with_reducible refine Rb.below ?_ (by assumption))
                            rintro e w1 ⟨g3, o3, m3, d3, rfl, hr3, hb1⟩
                            have hzz := hb1.size
                            (try simp only [size_freeze, size_drew, World.size_alloc] at hzz)
                            have hln : m3 ≤ 600 := by rw [hr3.1]; exact line_len (by simp [rdL]) hsm.out
                            have HR3 := Hid.mk hr3
                            clear hr3
                            go_wp2_with fail
                            refine hK.out _ _ ?_ (fun hHeld => ?_)
                            · (try dsimp only); first | (go_keep; done) | ((repeat' constructor) <;> first | exact cell_keep hb1 (by first | assumption | (simp [*]; done)) | exact cell_freeze (by first | assumption | (simp [*]; done)) _ _ | exact World.grownBy.cell HG4.out (by first | assumption | (simp [*]; done)) (fun e => by have := (ho.out.lt _ e.symm).2; dsimp only at this; omega))
                            clear hK K
                            (try simp only [Act.put, List.setIfInBounds_toArray, List.set_cons_zero, List.set_cons_succ])
                            refine wpAnyH_ready (rs := [14]) (by kernel_rfl) (by simp) ?_
                            refine AllReadyH.cons rfl (fun K hK => ?_) ?_
                            · rw [if_pos (by rfl)]
                              refine wp_append_own _ _ _ 28 rfl (w.heap.size + 1) 5 i0 (.int .u8 0) 1 1 Tryd.underlying28 hi hz0 hz1 hz2 rfl (by decide) _ _ _ rfl (Own.below ho.out (by repeat (first | with_reducible exact Below.refl _ _ | with_reducible refine below_alloc' ?_ _ | with_reducible refine Lib.below_freeze ?_ (by dsimp only; omega) _ | with_reducible refine Below.drew ?_ | with_reducible refine below_then ?_ (by assumption)))) ⟨g3, o3, none⟩ m3 d3 (Lib.byteCells (line (rdL (I.R k)))) rfl (by simp [Lib.byteCells]; exact HR3.out.1.symm) HR3.out.2.2 (byteCells_one _) (by unfold maxLen; omega) (by omega) (by omega) ?_
                              intro v4 w4 hown4 hgrow4 _
                              have HO5 : Hid (Own (w.heap.size + 1) w4 v4 (rowsR I (k + 1))) := by rw [rowsR_succ]; exact own_app HR3.out.1 hown4
                              have HB5 : Hid (Below w.heap.size w w4) := (below_then hb.out (by repeat (first | with_reducible exact Below.refl _ _ | with_reducible refine below_alloc' ?_ _ | with_reducible refine Lib.below_freeze ?_ (by dsimp only; omega) _ | with_reducible refine Below.drew ?_ | with_reducible refine below_then ?_ (by assumption)))).grown hgrow4 (by omega) (fun k hk => Nat.le_of_succ_le (ho.out.lt k hk).1)
                              have HX5 := Hid.mk (blk_grown (blk_below hx.out (by repeat (first | with_reducible exact Below.refl _ _ | with_reducible refine below_alloc' ?_ _ | with_reducible refine Lib.below_freeze ?_ (by dsimp only; omega) _ | with_reducible refine Below.drew ?_ | with_reducible refine below_then ?_ (by assumption)))) hgrow4 (fun e => by have := (ho.out.lt _ e).1; omega))
                              have HG4 := Hid.mk hgrow4
                              clear hown4 hgrow4
                              refine hK.out _ _ ?_ (fun hHeld => ?_)
                              · (try dsimp only); first | (go_keep; done) | ((repeat' constructor) <;> first | exact cell_keep hb1 (by first | assumption | (simp [*]; done)) | exact cell_freeze (by first | assumption | (simp [*]; done)) _ _ | exact World.grownBy.cell HG4.out (by first | assumption | (simp [*]; done)) (fun e => by have := (ho.out.lt _ e.symm).2; dsimp only at this; omega))
                              clear hK K
                              (try simp only [Act.put, List.setIfInBounds_toArray, List.set_cons_zero, List.set_cons_succ])
                              refine wpAnyH_ready (rs := [15]) (by kernel_rfl) (by simp) ?_
                              refine AllReadyH.cons rfl (fun K hK => ?_) ?_
                              · go_simp
                                refine hK.out _ _ ?_ (fun hHeld => ?_)
                                · (try dsimp only); first | (go_keep; done) | ((repeat' constructor) <;> first | exact cell_keep hb1 (by first | assumption | (simp [*]; done)) | exact cell_freeze (by first | assumption | (simp [*]; done)) _ _ | exact World.grownBy.cell HG4.out (by first | assumption | (simp [*]; done)) (fun e => by have := (ho.out.lt _ e.symm).2; dsimp only at this; omega))
                                clear hK K
                                (try simp only [Act.put, List.setIfInBounds_toArray, List.set_cons_zero, List.set_cons_succ])
                                refine wpAnyH_done (by kernel_rfl) ?_ _
                                go_wp2
                                exact ⟨⟨k + 1, by omega, by go_num, HO5, HB5, HX5⟩, by simp [intOf]; omega⟩
                              exact AllReadyH.nil
                            exact AllReadyH.nil
                          exact AllReadyH.nil
                        exact AllReadyH.nil
                      exact AllReadyH.nil
                    exact AllReadyH.nil
                  refine AllReadyH.cons rfl (fun K hK => ?_) ?_
                  · go_simp
                    refine (decimalR _ _ (by omega) (by omega)).mono ?_
                    rintro e w1 ⟨g1, o1, n1, c1, rfl, hg1, hr1, hb1⟩
                    have hzz := hb1.size
                    (try simp only [size_freeze, size_drew, World.size_alloc] at hzz)
                    (first | (have hq := blk_below hq hb1; have hkc := kd.out _ _ _ _ 4 4 hq) | (have hq := lit_atd #[.int .u8 114, .int .u8 111, .int .u8 97, .int .u8 100] 5 hb1; (try simp only [World.size_alloc] at hq); have hkc := kd.out _ _ _ _ 4 4 hq) | (have hq := lit_at #[.int .u8 114, .int .u8 111, .int .u8 97, .int .u8 100] 5 hb1; (try simp only [World.size_alloc] at hq); have hkc := kd.out _ _ _ _ 4 4 hq) | skip)
                    go_wp2_with fail
                    refine hK.out _ _ ?_ (fun hHeld => ?_)
                    · (try dsimp only); first | (go_keep; done) | ((repeat' constructor) <;> first | exact cell_keep hb1 (by first | assumption | (simp [*]; done)) | exact cell_freeze (by first | assumption | (simp [*]; done)) _ _ | exact World.grownBy.cell HG4.out (by first | assumption | (simp [*]; done)) (fun e => by have := (ho.out.lt _ e.symm).2; dsimp only at this; omega))
                    clear hK K
                    (try simp only [Act.put, List.setIfInBounds_toArray, List.set_cons_zero, List.set_cons_succ])
                    refine wpAnyH_ready (rs := [2, 11]) (by kernel_rfl) (by simp) ?_
                    refine AllReadyH.cons rfl (fun K hK => ?_) ?_
                    · go_simp
                      refine hK.out _ _ ?_ (fun hHeld => ?_)
                      · (try dsimp only); first | (go_keep; done) | ((repeat' constructor) <;> first | exact cell_keep hb1 (by first | assumption | (simp [*]; done)) | exact cell_freeze (by first | assumption | (simp [*]; done)) _ _ | exact World.grownBy.cell HG4.out (by first | assumption | (simp [*]; done)) (fun e => by have := (ho.out.lt _ e.symm).2; dsimp only at this; omega))
                      clear hK K
                      (try simp only [Act.put, List.setIfInBounds_toArray, List.set_cons_zero, List.set_cons_succ])
                      refine wpAnyH_ready (rs := [11]) (by kernel_rfl) (by simp) ?_
                      refine AllReadyH.cons rfl (fun K hK => ?_) ?_
                      · go_simp
                        refine (decimalR _ _ (by omega) (by omega)).mono ?_
                        rintro e w1 ⟨g1, o1, n1, c1, rfl, hg1, hr1, hb1⟩
                        have hzz := hb1.size
                        (try simp only [size_freeze, size_drew, World.size_alloc] at hzz)
                        (first | (have hq := blk_below hq hb1; have hkc := kd.out _ _ _ _ 4 4 hq) | (have hq := lit_atd #[.int .u8 114, .int .u8 111, .int .u8 97, .int .u8 100] 5 hb1; (try simp only [World.size_alloc] at hq); have hkc := kd.out _ _ _ _ 4 4 hq) | (have hq := lit_at #[.int .u8 114, .int .u8 111, .int .u8 97, .int .u8 100] 5 hb1; (try simp only [World.size_alloc] at hq); have hkc := kd.out _ _ _ _ 4 4 hq) | skip)
                        go_wp2_with fail
                        refine hK.out _ _ ?_ (fun hHeld => ?_)
                        · (try dsimp only); first | (go_keep; done) | ((repeat' constructor) <;> first | exact cell_keep hb1 (by first | assumption | (simp [*]; done)) | exact cell_freeze (by first | assumption | (simp [*]; done)) _ _ | exact World.grownBy.cell HG4.out (by first | assumption | (simp [*]; done)) (fun e => by have := (ho.out.lt _ e.symm).2; dsimp only at this; omega))
                        clear hK K
                        (try simp only [Act.put, List.setIfInBounds_toArray, List.set_cons_zero, List.set_cons_succ])
                        refine wpAnyH_ready (rs := [12]) (by kernel_rfl) (by simp) ?_
                        refine AllReadyH.cons rfl (fun K hK => ?_) ?_
                        · go_simp
                          refine hK.out _ _ ?_ (fun hHeld => ?_)
                          · (try dsimp only); first | (go_keep; done) | ((repeat' constructor) <;> first | exact cell_keep hb1 (by first | assumption | (simp [*]; done)) | exact cell_freeze (by first | assumption | (simp [*]; done)) _ _ | exact World.grownBy.cell HG4.out (by first | assumption | (simp [*]; done)) (fun e => by have := (ho.out.lt _ e.symm).2; dsimp only at this; omega))
                          clear hK K
                          (try simp only [Act.put, List.setIfInBounds_toArray, List.set_cons_zero, List.set_cons_succ])
                          refine wpAnyH_ready (rs := [13]) (by kernel_rfl) (by simp) ?_
                          refine AllReadyH.cons rfl (fun K hK => ?_) ?_
                          · go_simp
                            refine (joinN (rdL (I.R k)) _ _ 0 4 4 _ rfl ?hF (cells_of_blk (blk_new _ _)) (by simp [rdL]) hsm.out).mono ?_
                            case hF =>
                              refine ⟨⟨_, _, _, _, rfl, Nat.zero_le _, ?_⟩, ⟨_, _, _, _, rfl, Nat.zero_le _, ?_⟩, ⟨_, _, _, _, rfl, Nat.zero_le _, ?_⟩, ⟨_, _, _, _, rfl, Nat.zero_le _, ?_⟩, trivial⟩
                              · repeat (first | ((with_reducible refine Rb.newn ?_ ?_) <;> rfl) | ((with_reducible refine Rb.newn1 ?_ ?_) <;> rfl) | with_reducible refine Rb.alloc ?_ _ | with_reducible refine Rb.freeze ?_ _ _ | with_reducible refine Rb.drew ?_ | ((with_reducible refine Rb.blkn (by assumption) ?_ ?_) <;> rfl) | with_reducible refine Rb.below ?_ (by assumption))
                              · repeat (first | with_reducible assumption | with_reducible refine Rb.alloc ?_ _ | with_reducible refine Rb.freeze ?_ _ _ | with_reducible refine Rb.drew ?_ | with_reducible refine Rb.below ?_ (by assumption))
                              · repeat (first | with_reducible assumption | with_reducible refine Rb.alloc ?_ _ | with_reducible refine Rb.freeze ?_ _ _ | with_reducible refine Rb.drew ?_ | with_reducible refine Rb.below ?_ (by assumption))
                              · repeat (first | with_reducible assumption | with_reducible refine Rb.alloc ?_ _ | with_reducible refine Rb.freeze ?_ _ _ | with_reducible refine Rb.drew ?_ | with_reducible refine Rb.below ?_ (by assumption))
                            rintro e w1 ⟨g3, o3, m3, d3, rfl, hr3, hb1⟩
                            have hzz := hb1.size
                            (try simp only [size_freeze, size_drew, World.size_alloc] at hzz)
                            have hln : m3 ≤ 600 := by rw [hr3.1]; exact line_len (by simp [rdL]) hsm.out
                            have HR3 := Hid.mk hr3
                            clear hr3
                            go_wp2_with fail
                            refine hK.out _ _ ?_ (fun hHeld => ?_)
                            · (try dsimp only); first | (go_keep; done) | ((repeat' constructor) <;> first | exact cell_keep hb1 (by first | assumption | (simp [*]; done)) | exact cell_freeze (by first | assumption | (simp [*]; done)) _ _ | exact World.grownBy.cell HG4.out (by first | assumption | (simp [*]; done)) (fun e => by have := (ho.out.lt _ e.symm).2; dsimp only at this; omega))
                            clear hK K
                            (try simp only [Act.put, List.setIfInBounds_toArray, List.set_cons_zero, List.set_cons_succ])
                            refine wpAnyH_ready (rs := [14]) (by kernel_rfl) (by simp) ?_
                            refine AllReadyH.cons rfl (fun K hK => ?_) ?_
                            · rw [if_pos (by rfl)]
                              refine wp_append_own _ _ _ 28 rfl (w.heap.size + 1) 5 i0 (.int .u8 0) 1 1 Tryd.underlying28 hi hz0 hz1 hz2 rfl (by decide) _ _ _ rfl (Own.below ho.out (by repeat (first | with_reducible exact Below.refl _ _ | with_reducible refine below_alloc' ?_ _ | with_reducible refine Lib.below_freeze ?_ (by dsimp only; omega) _ | with_reducible refine Below.drew ?_ | with_reducible refine below_then ?_ (by assumption)))) ⟨g3, o3, none⟩ m3 d3 (Lib.byteCells (line (rdL (I.R k)))) rfl (by simp [Lib.byteCells]; exact HR3.out.1.symm) HR3.out.2.2 (byteCells_one _) (by unfold maxLen; omega) (by omega) (by omega) ?_
                              intro v4 w4 hown4 hgrow4 _
                              have HO5 : Hid (Own (w.heap.size + 1) w4 v4 (rowsR I (k + 1))) := by rw [rowsR_succ]; exact own_app HR3.out.1 hown4
                              have HB5 : Hid (Below w.heap.size w w4) := (below_then hb.out (by repeat (first | with_reducible exact Below.refl _ _ | with_reducible refine below_alloc' ?_ _ | with_reducible refine Lib.below_freeze ?_ (by dsimp only; omega) _ | with_reducible refine Below.drew ?_ | with_reducible refine below_then ?_ (by assumption)))).grown hgrow4 (by omega) (fun k hk => Nat.le_of_succ_le (ho.out.lt k hk).1)
                              have HX5 := Hid.mk (blk_grown (blk_below hx.out (by repeat (first | with_reducible exact Below.refl _ _ | with_reducible refine below_alloc' ?_ _ | with_reducible refine Lib.below_freeze ?_ (by dsimp only; omega) _ | with_reducible refine Below.drew ?_ | with_reducible refine below_then ?_ (by assumption)))) hgrow4 (fun e => by have := (ho.out.lt _ e).1; omega))
                              have HG4 := Hid.mk hgrow4
                              clear hown4 hgrow4
                              refine hK.out _ _ ?_ (fun hHeld => ?_)
                              · (try dsimp only); first | (go_keep; done) | ((repeat' constructor) <;> first | exact cell_keep hb1 (by first | assumption | (simp [*]; done)) | exact cell_freeze (by first | assumption | (simp [*]; done)) _ _ | exact World.grownBy.cell HG4.out (by first | assumption | (simp [*]; done)) (fun e => by have := (ho.out.lt _ e.symm).2; dsimp only at this; omega))
                              clear hK K
                              (try simp only [Act.put, List.setIfInBounds_toArray, List.set_cons_zero, List.set_cons_succ])
                              refine wpAnyH_ready (rs := [15]) (by kernel_rfl) (by simp) ?_
                              refine AllReadyH.cons rfl (fun K hK => ?_) ?_
                              · go_simp
                                refine hK.out _ _ ?_ (fun hHeld => ?_)
                                · (try dsimp only); first | (go_keep; done) | ((repeat' constructor) <;> first | exact cell_keep hb1 (by first | assumption | (simp [*]; done)) | exact cell_freeze (by first | assumption | (simp [*]; done)) _ _ | exact World.grownBy.cell HG4.out (by first | assumption | (simp [*]; done)) (fun e => by have := (ho.out.lt _ e.symm).2; dsimp only at this; omega))
                                clear hK K
                                (try simp only [Act.put, List.setIfInBounds_toArray, List.set_cons_zero, List.set_cons_succ])
                                refine wpAnyH_done (by kernel_rfl) ?_ _
                                go_wp2
                                exact ⟨⟨k + 1, by omega, by go_num, HO5, HB5, HX5⟩, by simp [intOf]; omega⟩
                              exact AllReadyH.nil
                            exact AllReadyH.nil
                          exact AllReadyH.nil
                        exact AllReadyH.nil
                      exact AllReadyH.nil
                    refine AllReadyH.cons rfl (fun K hK => ?_) ?_
                    · go_simp
                      refine (decimalR _ _ (by omega) (by omega)).mono ?_
                      rintro e w1 ⟨g1, o1, n1, c1, rfl, hg1, hr1, hb1⟩
                      have hzz := hb1.size
                      (try simp only [size_freeze, size_drew, World.size_alloc] at hzz)
                      (first | (have hq := blk_below hq hb1; have hkc := kd.out _ _ _ _ 4 4 hq) | (have hq := lit_atd #[.int .u8 114, .int .u8 111, .int .u8 97, .int .u8 100] 5 hb1; (try simp only [World.size_alloc] at hq); have hkc := kd.out _ _ _ _ 4 4 hq) | (have hq := lit_at #[.int .u8 114, .int .u8 111, .int .u8 97, .int .u8 100] 5 hb1; (try simp only [World.size_alloc] at hq); have hkc := kd.out _ _ _ _ 4 4 hq) | skip)
                      go_wp2_with fail
                      refine hK.out _ _ ?_ (fun hHeld => ?_)
                      · (try dsimp only); first | (go_keep; done) | ((repeat' constructor) <;> first | exact cell_keep hb1 (by first | assumption | (simp [*]; done)) | exact cell_freeze (by first | assumption | (simp [*]; done)) _ _ | exact World.grownBy.cell HG4.out (by first | assumption | (simp [*]; done)) (fun e => by have := (ho.out.lt _ e.symm).2; dsimp only at this; omega))
                      clear hK K
                      (try simp only [Act.put, List.setIfInBounds_toArray, List.set_cons_zero, List.set_cons_succ])
                      refine wpAnyH_ready (rs := [2]) (by kernel_rfl) (by simp) ?_
                      refine AllReadyH.cons rfl (fun K hK => ?_) ?_
                      · go_simp
                        refine hK.out _ _ ?_ (fun hHeld => ?_)
                        · (try dsimp only); first | (go_keep; done) | ((repeat' constructor) <;> first | exact cell_keep hb1 (by first | assumption | (simp [*]; done)) | exact cell_freeze (by first | assumption | (simp [*]; done)) _ _ | exact World.grownBy.cell HG4.out (by first | assumption | (simp [*]; done)) (fun e => by have := (ho.out.lt _ e.symm).2; dsimp only at this; omega))
                        clear hK K
                        (try simp only [Act.put, List.setIfInBounds_toArray, List.set_cons_zero, List.set_cons_succ])
                        refine wpAnyH_ready (rs := [12]) (by kernel_rfl) (by simp) ?_
                        refine AllReadyH.cons rfl (fun K hK => ?_) ?_
                        · go_simp
                          refine hK.out _ _ ?_ (fun hHeld => ?_)
                          · (try dsimp only); first | (go_keep; done) | ((repeat' constructor) <;> first | exact cell_keep hb1 (by first | assumption | (simp [*]; done)) | exact cell_freeze (by first | assumption | (simp [*]; done)) _ _ | exact World.grownBy.cell HG4.out (by first | assumption | (simp [*]; done)) (fun e => by have := (ho.out.lt _ e.symm).2; dsimp only at this; omega))
                          clear hK K
                          (try simp only [Act.put, List.setIfInBounds_toArray, List.set_cons_zero, List.set_cons_succ])
                          refine wpAnyH_ready (rs := [13]) (by kernel_rfl) (by simp) ?_
                          refine AllReadyH.cons rfl (fun K hK => ?_) ?_
                          · go_simp
                            refine (joinN (rdL (I.R k)) _ _ 0 4 4 _ rfl ?hF (cells_of_blk (blk_new _ _)) (by simp [rdL]) hsm.out).mono ?_
                            case hF =>
                              refine ⟨⟨_, _, _, _, rfl, Nat.zero_le _, ?_⟩, ⟨_, _, _, _, rfl, Nat.zero_le _, ?_⟩, ⟨_, _, _, _, rfl, Nat.zero_le _, ?_⟩, ⟨_, _, _, _, rfl, Nat.zero_le _, ?_⟩, trivial⟩
                              · repeat (first | ((with_reducible refine Rb.newn ?_ ?_) <;> rfl) | ((with_reducible refine Rb.newn1 ?_ ?_) <;> rfl) | with_reducible refine Rb.alloc ?_ _ | with_reducible refine Rb.freeze ?_ _ _ | with_reducible refine Rb.drew ?_ | ((with_reducible refine Rb.blkn (by assumption) ?_ ?_) <;> rfl) | with_reducible refine Rb.below ?_ (by assumption))
                              · repeat (first | with_reducible assumption | with_reducible refine Rb.alloc ?_ _ | with_reducible refine Rb.freeze ?_ _ _ | with_reducible refine Rb.drew ?_ | with_reducible refine Rb.below ?_ (by assumption))
                              · repeat (first | with_reducible assumption | with_reducible refine Rb.alloc ?_ _ | with_reducible refine Rb.freeze ?_ _ _ | with_reducible refine Rb.drew ?_ | with_reducible refine Rb.below ?_ (by assumption))
                              · repeat (first | with_reducible assumption | with_reducible refine Rb.alloc ?_ _ | with_reducible refine Rb.freeze ?_ _ _ | with_reducible refine Rb.drew ?_ | with_reducible refine Rb.below ?_ (by assumption))
                            rintro e w1 ⟨g3, o3, m3, d3, rfl, hr3, hb1⟩
                            have hzz := hb1.size
                            (try simp only [size_freeze, size_drew, World.size_alloc] at hzz)
                            have hln : m3 ≤ 600 := by rw [hr3.1]; exact line_len (by simp [rdL]) hsm.out
                            have HR3 := Hid.mk hr3
                            clear hr3
                            go_wp2_with fail
                            refine hK.out _ _ ?_ (fun hHeld => ?_)
                            · (try dsimp only); first | (go_keep; done) | ((repeat' constructor) <;> first | exact cell_keep hb1 (by first | assumption | (simp [*]; done)) | exact cell_freeze (by first | assumption | (simp [*]; done)) _ _ | exact World.grownBy.cell HG4.out (by first | assumption | (simp [*]; done)) (fun e => by have := (ho.out.lt _ e.symm).2; dsimp only at this; omega))
                            clear hK K
                            (try simp only [Act.put, List.setIfInBounds_toArray, List.set_cons_zero, List.set_cons_succ])
                            refine wpAnyH_ready (rs := [14]) (by kernel_rfl) (by simp) ?_
                            refine AllReadyH.cons rfl (fun K hK => ?_) ?_
                            · rw [if_pos (by rfl)]
                              refine wp_append_own _ _ _ 28 rfl (w.heap.size + 1) 5 i0 (.int .u8 0) 1 1 Tryd.underlying28 hi hz0 hz1 hz2 rfl (by decide) _ _ _ rfl (Own.below ho.out (by repeat (first | with_reducible exact Below.refl _ _ | with_reducible refine below_alloc' ?_ _ | with_reducible refine Lib.below_freeze ?_ (by dsimp only; omega) _ | with_reducible refine Below.drew ?_ | with_reducible refine below_then ?_ (by assumption)))) ⟨g3, o3, none⟩ m3 d3 (Lib.byteCells (line (rdL (I.R k)))) rfl (by simp [Lib.byteCells]; exact HR3.out.1.symm) HR3.out.2.2 (byteCells_one _) (by unfold maxLen; omega) (by omega) (by omega) ?_
                              intro v4 w4 hown4 hgrow4 _
                              have HO5 : Hid (Own (w.heap.size + 1) w4 v4 (rowsR I (k + 1))) := by rw [rowsR_succ]; exact own_app HR3.out.1 hown4
                              have HB5 : Hid (Below w.heap.size w w4) := (below_then hb.out (by repeat (first | with_reducible exact Below.refl _ _ | with_reducible refine below_alloc' ?_ _ | with_reducible refine Lib.below_freeze ?_ (by dsimp only; omega) _ | with_reducible refine Below.drew ?_ | with_reducible refine below_then ?_ (by assumption)))).grown hgrow4 (by omega) (fun k hk => Nat.le_of_succ_le (ho.out.lt k hk).1)
                              have HX5 := Hid.mk (blk_grown (blk_below hx.out (by repeat (first | with_reducible exact Below.refl _ _ | with_reducible refine below_alloc' ?_ _ | with_reducible refine Lib.below_freeze ?_ (by dsimp only; omega) _ | with_reducible refine Below.drew ?_ | with_reducible refine below_then ?_ (by assumption)))) hgrow4 (fun e => by have := (ho.out.lt _ e).1; omega))
                              have HG4 := Hid.mk hgrow4
                              clear hown4 hgrow4
                              refine hK.out _ _ ?_ (fun hHeld => ?_)
                              · (try dsimp only); first | (go_keep; done) | ((repeat' constructor) <;> first | exact cell_keep hb1 (by first | assumption | (simp [*]; done)) | exact cell_freeze (by first | assumption | (simp [*]; done)) _ _ | exact World.grownBy.cell HG4.out (by first | assumption | (simp [*]; done)) (fun e => by have := (ho.out.lt _ e.symm).2; dsimp only at this; omega))
                              clear hK K
                              (try simp only [Act.put, List.setIfInBounds_toArray, List.set_cons_zero, List.set_cons_succ])
                              refine wpAnyH_ready (rs := [15]) (by kernel_rfl) (by simp) ?_
                              refine AllReadyH.cons rfl (fun K hK => ?_) ?_
                              · go_simp
                                refine hK.out _ _ ?_ (fun hHeld => ?_)
                                · (try dsimp only); first | (go_keep; done) | ((repeat' constructor) <;> first | exact cell_keep hb1 (by first | assumption | (simp [*]; done)) | exact cell_freeze (by first | assumption | (simp [*]; done)) _ _ | exact World.grownBy.cell HG4.out (by first | assumption | (simp [*]; done)) (fun e => by have := (ho.out.lt _ e.symm).2; dsimp only at this; omega))
                                clear hK K
                                (try simp only [Act.put, List.setIfInBounds_toArray, List.set_cons_zero, List.set_cons_succ])
                                refine wpAnyH_done (by kernel_rfl) ?_ _
                                go_wp2
                                exact ⟨⟨k + 1, by omega, by go_num, HO5, HB5, HX5⟩, by simp [intOf]; omega⟩
                              exact AllReadyH.nil
                            exact AllReadyH.nil
                          exact AllReadyH.nil
                        exact AllReadyH.nil
                      exact AllReadyH.nil
                    exact AllReadyH.nil
                  exact AllReadyH.nil
                exact AllReadyH.nil
              refine AllReadyH.cons rfl (fun K hK => ?_) ?_
              · go_simp
                refine (decimalR _ _ (by omega) (by omega)).mono ?_
                rintro e w1 ⟨g1, o1, n1, c1, rfl, hg1, hr1, hb1⟩
                have hzz := hb1.size
                (try simp only [size_freeze, size_drew, World.size_alloc] at hzz)
                (first | (have hq := blk_below hq hb1; have hkc := kd.out _ _ _ _ 4 4 hq) | (have hq := lit_atd #[.int .u8 114, .int .u8 111, .int .u8 97, .int .u8 100] 5 hb1; (try simp only [World.size_alloc] at hq); have hkc := kd.out _ _ _ _ 4 4 hq) | (have hq := lit_at #[.int .u8 114, .int .u8 111, .int .u8 97, .int .u8 100] 5 hb1; (try simp only [World.size_alloc] at hq); have hkc := kd.out _ _ _ _ 4 4 hq) | skip)
                go_wp2_with fail
                refine hK.out _ _ ?_ (fun hHeld => ?_)
                · (try dsimp only); first | (go_keep; done) | ((repeat' constructor) <;> first | exact cell_keep hb1 (by first | assumption | (simp [*]; done)) | exact cell_freeze (by first | assumption | (simp [*]; done)) _ _ | exact World.grownBy.cell HG4.out (by first | assumption | (simp [*]; done)) (fun e => by have := (ho.out.lt _ e.symm).2; dsimp only at this; omega))
                clear hK K
                (try simp only [Act.put, List.setIfInBounds_toArray, List.set_cons_zero, List.set_cons_succ])
                refine wpAnyH_ready (rs := [1, 8]) (by kernel_rfl) (by simp) ?_
                refine AllReadyH.cons rfl (fun K hK => ?_) ?_
                · go_simp
                  refine hK.out _ _ ?_ (fun hHeld => ?_)
                  · (try dsimp only); first | (go_keep; done) | ((repeat' constructor) <;> first | exact cell_keep hb1 (by first | assumption | (simp [*]; done)) | exact cell_freeze (by first | assumption | (simp [*]; done)) _ _ | exact World.grownBy.cell HG4.out (by first | assumption | (simp [*]; done)) (fun e => by have := (ho.out.lt _ e.symm).2; dsimp only at this; omega))
                  clear hK K
                  (try simp only [Act.put, List.setIfInBounds_toArray, List.set_cons_zero, List.set_cons_succ])
                  refine wpAnyH_ready (rs := [2, 8]) (by kernel_rfl) (by simp) ?_
                  refine AllReadyH.cons rfl (fun K hK => ?_) ?_
                  · go_simp
                    refine hK.out _ _ ?_ (fun hHeld => ?_)
                    · (try dsimp only); first | (go_keep; done) | ((repeat' constructor) <;> first | exact cell_keep hb1 (by first | assumption | (simp [*]; done)) | exact cell_freeze (by first | assumption | (simp [*]; done)) _ _ | exact World.grownBy.cell HG4.out (by first | assumption | (simp [*]; done)) (fun e => by have := (ho.out.lt _ e.symm).2; dsimp only at this; omega))
                    clear hK K
                    (try simp only [Act.put, List.setIfInBounds_toArray, List.set_cons_zero, List.set_cons_succ])
                    refine wpAnyH_ready (rs := [8]) (by kernel_rfl) (by simp) ?_
                    refine AllReadyH.cons rfl (fun K hK => ?_) ?_
                    · go_simp
                      refine (decimalR _ _ (by omega) (by omega)).mono ?_
                      rintro e w1 ⟨g1, o1, n1, c1, rfl, hg1, hr1, hb1⟩
                      have hzz := hb1.size
                      (try simp only [size_freeze, size_drew, World.size_alloc] at hzz)
                      (first | (have hq := blk_below hq hb1; have hkc := kd.out _ _ _ _ 4 4 hq) | (have hq := lit_atd #[.int .u8 114, .int .u8 111, .int .u8 97, .int .u8 100] 5 hb1; (try simp only [World.size_alloc] at hq); have hkc := kd.out _ _ _ _ 4 4 hq) | (have hq := lit_at #[.int .u8 114, .int .u8 111, .int .u8 97, .int .u8 100] 5 hb1; (try simp only [World.size_alloc] at hq); have hkc := kd.out _ _ _ _ 4 4 hq) | skip)
                      go_wp2_with fail
                      refine hK.out _ _ ?_ (fun hHeld => ?_)
                      · (try dsimp only); first | (go_keep; done) | ((repeat' constructor) <;> first | exact cell_keep hb1 (by first | assumption | (simp [*]; done)) | exact cell_freeze (by first | assumption | (simp [*]; done)) _ _ | exact World.grownBy.cell HG4.out (by first | assumption | (simp [*]; done)) (fun e => by have := (ho.out.lt _ e.symm).2; dsimp only at this; omega))
                      clear hK K
                      (try simp only [Act.put, List.setIfInBounds_toArray, List.set_cons_zero, List.set_cons_succ])
                      refine wpAnyH_ready (rs := [11]) (by kernel_rfl) (by simp) ?_
                      refine AllReadyH.cons rfl (fun K hK => ?_) ?_
                      · go_simp
                        refine (decimalR _ _ (by omega) (by omega)).mono ?_
                        rintro e w1 ⟨g1, o1, n1, c1, rfl, hg1, hr1, hb1⟩
                        have hzz := hb1.size
                        (try simp only [size_freeze, size_drew, World.size_alloc] at hzz)
                        (first | (have hq := blk_below hq hb1; have hkc := kd.out _ _ _ _ 4 4 hq) | (have hq := lit_atd #[.int .u8 114, .int .u8 111, .int .u8 97, .int .u8 100] 5 hb1; (try simp only [World.size_alloc] at hq); have hkc := kd.out _ _ _ _ 4 4 hq) | (have hq := lit_at #[.int .u8 114, .int .u8 111, .int .u8 97, .int .u8 100] 5 hb1; (try simp only [World.size_alloc] at hq); have hkc := kd.out _ _ _ _ 4 4 hq) | skip)
                        go_wp2_with fail
                        refine hK.out _ _ ?_ (fun hHeld => ?_)
                        · (try dsimp only); first | (go_keep; done) | ((repeat' constructor) <;> first | exact cell_keep hb1 (by first | assumption | (simp [*]; done)) | exact cell_freeze (by first | assumption | (simp [*]; done)) _ _ | exact World.grownBy.cell HG4.out (by first | assumption | (simp [*]; done)) (fun e => by have := (ho.out.lt _ e.symm).2; dsimp only at this; omega))
                        clear hK K
                        (try simp only [Act.put, List.setIfInBounds_toArray, List.set_cons_zero, List.set_cons_succ])
                        refine wpAnyH_ready (rs := [12]) (by kernel_rfl) (by simp) ?_
                        refine AllReadyH.cons rfl (fun K hK => ?_) ?_
                        · go_simp
                          refine hK.out _ _ ?_ (fun hHeld => ?_)
                          · (try dsimp only); first | (go_keep; done) | ((repeat' constructor) <;> first | exact cell_keep hb1 (by first | assumption | (simp [*]; done)) | exact cell_freeze (by first | assumption | (simp [*]; done)) _ _ | exact World.grownBy.cell HG4.out (by first | assumption | (simp [*]; done)) (fun e => by have := (ho.out.lt _ e.symm).2; dsimp only at this; omega))
                          clear hK K
                          (try simp only [Act.put, List.setIfInBounds_toArray, List.set_cons_zero, List.set_cons_succ])
                          refine wpAnyH_ready (rs := [13]) (by kernel_rfl) (by simp) ?_
                          refine AllReadyH.cons rfl (fun K hK => ?_) ?_
                          · go_simp
                            refine (joinN (rdL (I.R k)) _ _ 0 4 4 _ rfl ?hF (cells_of_blk (blk_new _ _)) (by simp [rdL]) hsm.out).mono ?_
                            case hF =>
                              refine ⟨⟨_, _, _, _, rfl, Nat.zero_le _, ?_⟩, ⟨_, _, _, _, rfl, Nat.zero_le _, ?_⟩, ⟨_, _, _, _, rfl, Nat.zero_le _, ?_⟩, ⟨_, _, _, _, rfl, Nat.zero_le _, ?_⟩, trivial⟩
                              · repeat (first | ((with_reducible refine Rb.newn ?_ ?_) <;> rfl) | ((with_reducible refine Rb.newn1 ?_ ?_) <;> rfl) | with_reducible refine Rb.alloc ?_ _ | with_reducible refine Rb.freeze ?_ _ _ | with_reducible refine Rb.drew ?_ | ((with_reducible refine Rb.blkn (by assumption) ?_ ?_) <;> rfl) | with_reducible refine Rb.below ?_ (by assumption))
                              · repeat (first | with_reducible assumption | with_reducible refine Rb.alloc ?_ _ | with_reducible refine Rb.freeze ?_ _ _ | with_reducible refine Rb.drew ?_ | with_reducible refine Rb.below ?_ (by assumption))
                              · repeat (first | with_reducible assumption | with_reducible refine Rb.alloc ?_ _ | with_reducible refine Rb.freeze ?_ _ _ | with_reducible refine Rb.drew ?_ | with_reducible refine Rb.below ?_ (by assumption))
                              · repeat (first | with_reducible assumption | with_reducible refine Rb.alloc ?_ _ | with_reducible refine Rb.freeze ?_ _ _ | with_reducible refine Rb.drew ?_ | with_reducible refine Rb.below ?_ (by assumption))
                            rintro e w1 ⟨g3, o3, m3, d3, rfl, hr3, hb1⟩
                            have hzz := hb1.size
                            (try simp only [size_freeze, size_drew, World.size_alloc] at hzz)
                            have hln : m3 ≤ 600 := by rw [hr3.1]; exact line_len (by simp [rdL]) hsm.out
                            have HR3 := Hid.mk hr3
                            clear hr3
                            go_wp2_with fail
                            refine hK.out _ _ ?_ (fun hHeld => ?_)
                            · (try dsimp only); first | (go_keep; done) | ((repeat' constructor) <;> first | exact cell_keep hb1 (by first | assumption | (simp [*]; done)) | exact cell_freeze (by first | assumption | (simp [*]; done)) _ _ | exact World.grownBy.cell HG4.out (by first | assumption | (simp [*]; done)) (fun e => by have := (ho.out.lt _ e.symm).2; dsimp only at this; omega))
                            clear hK K
                            (try simp only [Act.put, List.setIfInBounds_toArray, List.set_cons_zero, List.set_cons_succ])
                            refine wpAnyH_ready (rs := [14]) (by kernel_rfl) (by simp) ?_
                            refine AllReadyH.cons rfl (fun K hK => ?_) ?_
                            · rw [if_pos (by rfl)]
                              refine wp_append_own _ _ _ 28 rfl (w.heap.size + 1) 5 i0 (.int .u8 0) 1 1 Tryd.underlying28 hi hz0 hz1 hz2 rfl (by decide) _ _ _ rfl (Own.below ho.out (by repeat (first | with_reducible exact Below.refl _ _ | with_reducible refine below_alloc' ?_ _ | with_reducible refine Lib.below_freeze ?_ (by dsimp only; omega) _ | with_reducible refine Below.drew ?_ | with_reducible refine below_then ?_ (by assumption)))) ⟨g3, o3, none⟩ m3 d3 (Lib.byteCells (line (rdL (I.R k)))) rfl (by simp [Lib.byteCells]; exact HR3.out.1.symm) HR3.out.2.2 (byteCells_one _) (by unfold maxLen; omega) (by omega) (by omega) ?_
                              intro v4 w4 hown4 hgrow4 _
                              have HO5 : Hid (Own (w.heap.size + 1) w4 v4 (rowsR I (k + 1))) := by rw [rowsR_succ]; exact own_app HR3.out.1 hown4
                              have HB5 : Hid (Below w.heap.size w w4) := (below_then hb.out (by repeat (first | with_reducible exact Below.refl _ _ | with_reducible refine below_alloc' ?_ _ | with_reducible refine Lib.below_freeze ?_ (by dsimp only; omega) _ | with_reducible refine Below.drew ?_ | with_reducible refine below_then ?_ (by assumption)))).grown hgrow4 (by omega) (fun k hk => Nat.le_of_succ_le (ho.out.lt k hk).1)
                              have HX5 := Hid.mk (blk_grown (blk_below hx.out (by repeat (first | with_reducible exact Below.refl _ _ | with_reducible refine below_alloc' ?_ _ | with_reducible refine Lib.below_freeze ?_ (by dsimp only; omega) _ | with_reducible refine Below.drew ?_ | with_reducible refine below_then ?_ (by assumption)))) hgrow4 (fun e => by have := (ho.out.lt _ e).1; omega))
                              have HG4 := Hid.mk hgrow4
                              clear hown4 hgrow4
                              refine hK.out _ _ ?_ (fun hHeld => ?_)
                              · (try dsimp only); first | (go_keep; done) | ((repeat' constructor) <;> first | exact cell_keep hb1 (by first | assumption | (simp [*]; done)) | exact cell_freeze (by first | assumption | (simp [*]; done)) _ _ | exact World.grownBy.cell HG4.out (by first | assumption | (simp [*]; done)) (fun e => by have := (ho.out.lt _ e.symm).2; dsimp only at this; omega))
                              clear hK K
                              (try simp only [Act.put, List.setIfInBounds_toArray, List.set_cons_zero, List.set_cons_succ])
                              refine wpAnyH_ready (rs := [15]) (by kernel_rfl) (by simp) ?_
                              refine AllReadyH.cons rfl (fun K hK => ?_) ?_
                              · go_simp
                                refine hK.out _ _ ?_ (fun hHeld => ?_)
                                · (try dsimp only); first | (go_keep; done) | ((repeat' constructor) <;> first | exact cell_keep hb1 (by first | assumption | (simp [*]; done)) | exact cell_freeze (by first | assumption | (simp [*]; done)) _ _ | exact World.grownBy.cell HG4.out (by first | assumption | (simp [*]; done)) (fun e => by have := (ho.out.lt _ e.symm).2; dsimp only at this; omega))
                                clear hK K
                                (try simp only [Act.put, List.setIfInBounds_toArray, List.set_cons_zero, List.set_cons_succ])
                                refine wpAnyH_done (by kernel_rfl) ?_ _
                                go_wp2
                                exact ⟨⟨k + 1, by omega, by go_num, HO5, HB5, HX5⟩, by simp [intOf]; omega⟩
                              exact AllReadyH.nil
                            exact AllReadyH.nil
                          exact AllReadyH.nil
                        exact AllReadyH.nil
                      exact AllReadyH.nil
                    exact AllReadyH.nil
                  refine AllReadyH.cons rfl (fun K hK => ?_) ?_
                  · go_simp
                    refine (decimalR _ _ (by omega) (by omega)).mono ?_
                    rintro e w1 ⟨g1, o1, n1, c1, rfl, hg1, hr1, hb1⟩
                    have hzz := hb1.size
                    (try simp only [size_freeze, size_drew, World.size_alloc] at hzz)
                    (first | (have hq := blk_below hq hb1; have hkc := kd.out _ _ _ _ 4 4 hq) | (have hq := lit_atd #[.int .u8 114, .int .u8 111, .int .u8 97, .int .u8 100] 5 hb1; (try simp only [World.size_alloc] at hq); have hkc := kd.out _ _ _ _ 4 4 hq) | (have hq := lit_at #[.int .u8 114, .int .u8 111, .int .u8 97, .int .u8 100] 5 hb1; (try simp only [World.size_alloc] at hq); have hkc := kd.out _ _ _ _ 4 4 hq) | skip)
                    go_wp2_with fail
                    refine hK.out _ _ ?_ (fun hHeld => ?_)
                    · (try dsimp only); first | (go_keep; done) | ((repeat' constructor) <;> first | exact cell_keep hb1 (by first | assumption | (simp [*]; done)) | exact cell_freeze (by first | assumption | (simp [*]; done)) _ _ | exact World.grownBy.cell HG4.out (by first | assumption | (simp [*]; done)) (fun e => by have := (ho.out.lt _ e.symm).2; dsimp only at this; omega))
                    clear hK K
                    (try simp only [Act.put, List.setIfInBounds_toArray, List.set_cons_zero, List.set_cons_succ])
                    refine wpAnyH_ready (rs := [2, 11]) (by kernel_rfl) (by simp) ?_
                    refine AllReadyH.cons rfl (fun K hK => ?_) ?_
                    · go_simp
                      refine hK.out _ _ ?_ (fun hHeld => ?_)
                      · (try dsimp only); first | (go_keep; done) | ((repeat' constructor) <;> first | exact cell_keep hb1 (by first | assumption | (simp [*]; done)) | exact cell_freeze (by first | assumption | (simp [*]; done)) _ _ | exact World.grownBy.cell HG4.out (by first | assumption | (simp [*]; done)) (fun e => by have := (ho.out.lt _ e.symm).2; dsimp only at this; omega))
                      clear hK K
                      (try simp only [Act.put, List.setIfInBounds_toArray, List.set_cons_zero, List.set_cons_succ])
                      refine wpAnyH_ready (rs := [11]) (by kernel_rfl) (by simp) ?_
                      refine AllReadyH.cons rfl (fun K hK => ?_) ?_
                      · go_simp
                        refine (decimalR _ _ (by omega) (by omega)).mono ?_
                        rintro e w1 ⟨g1, o1, n1, c1, rfl, hg1, hr1, hb1⟩
                        have hzz := hb1.size
                        (try simp only [size_freeze, size_drew, World.size_alloc] at hzz)
                        (first | (have hq := blk_below hq hb1; have hkc := kd.out _ _ _ _ 4 4 hq) | (have hq := lit_atd #[.int .u8 114, .int .u8 111, .int .u8 97, .int .u8 100] 5 hb1; (try simp only [World.size_alloc] at hq); have hkc := kd.out _ _ _ _ 4 4 hq) | (have hq := lit_at #[.int .u8 114, .int .u8 111, .int .u8 97, .int .u8 100] 5 hb1; (try simp only [World.size_alloc] at hq); have hkc := kd.out _ _ _ _ 4 4 hq) | skip)
                        go_wp2_with fail
                        refine hK.out _ _ ?_ (fun hHeld => ?_)
                        · (try dsimp only); first | (go_keep; done) | ((repeat' constructor) <;> first | exact cell_keep hb1 (by first | assumption | (simp [*]; done)) | exact cell_freeze (by first | assumption | (simp [*]; done)) _ _ | exact World.grownBy.cell HG4.out (by first | assumption | (simp [*]; done)) (fun e => by have := (ho.out.lt _ e.symm).2; dsimp only at this; omega))
                        clear hK K
                        (try simp only [Act.put, List.setIfInBounds_toArray, List.set_cons_zero, List.set_cons_succ])
                        refine wpAnyH_ready (rs := [12]) (by kernel_rfl) (by simp) ?_
                        refine AllReadyH.cons rfl (fun K hK => ?_) ?_
                        · go_simp
                          refine hK.out _ _ ?_ (fun hHeld => ?_)
                          · (try dsimp only); first | (go_keep; done) | ((repeat' constructor) <;> first | exact cell_keep hb1 (by first | assumption | (simp [*]; done)) | exact cell_freeze (by first | assumption | (simp [*]; done)) _ _ | exact World.grownBy.cell HG4.out (by first | assumption | (simp [*]; done)) (fun e => by have := (ho.out.lt _ e.symm).2; dsimp only at this; omega))
                          clear hK K
                          (try simp only [Act.put, List.setIfInBounds_toArray, List.set_cons_zero, List.set_cons_succ])
                          refine wpAnyH_ready (rs := [13]) (by kernel_rfl) (by simp) ?_
                          refine AllReadyH.cons rfl (fun K hK => ?_) ?_
                          · go_simp
                            refine (joinN (rdL (I.R k)) _ _ 0 4 4 _ rfl ?hF (cells_of_blk (blk_new _ _)) (by simp [rdL]) hsm.out).mono ?_
                            case hF =>
                              refine ⟨⟨_, _, _, _, rfl, Nat.zero_le _, ?_⟩, ⟨_, _, _, _, rfl, Nat.zero_le _, ?_⟩, ⟨_, _, _, _, rfl, Nat.zero_le _, ?_⟩, ⟨_, _, _, _, rfl, Nat.zero_le _, ?_⟩, trivial⟩
                              · repeat (first | ((with_reducible refine Rb.newn ?_ ?_) <;> rfl) | ((with_reducible refine Rb.newn1 ?_ ?_) <;> rfl) | with_reducible refine Rb.alloc ?_ _ | with_reducible refine Rb.freeze ?_ _ _ | with_reducible refine Rb.drew ?_ | ((with_reducible refine Rb.blkn (by assumption) ?_ ?_) <;> rfl) | with_reducible refine Rb.below ?_ (by assumption))
                              · repeat (first | with_reducible assumption | with_reducible refine Rb.alloc ?_ _ | with_reducible refine Rb.freeze ?_ _ _ | with_reducible refine Rb.drew ?_ | with_reducible refine Rb.below ?_ (by assumption))
                              · repeat (first | with_reducible assumption | with_reducible refine Rb.alloc ?_ _ | with_reducible refine Rb.freeze ?_ _ _ | with_reducible refine Rb.drew ?_ | with_reducible refine Rb.below ?_ (by assumption))
                              · repeat (first | with_reducible assumption | with_reducible refine Rb.alloc ?_ _ | with_reducible refine Rb.freeze ?_ _ _ | with_reducible refine Rb.drew ?_ | with_reducible refine Rb.below ?_ (by assumption))
                            rintro e w1 ⟨g3, o3, m3, d3, rfl, hr3, hb1⟩
                            have hzz := hb1.size
                            (try simp only [size_freeze, size_drew, World.size_alloc] at hzz)
                            have hln : m3 ≤ 600 := by rw [hr3.1]; exact line_len (by simp [rdL]) hsm.out
                            have HR3 := Hid.mk hr3
                            clear hr3
                            go_wp2_with fail
                            refine hK.out _ _ ?_ (fun hHeld => ?_)
                            · (try dsimp only); first | (go_keep; done) | ((repeat' constructor) <;> first | exact cell_keep hb1 (by first | assumption | (simp [*]; done)) | exact cell_freeze (by first | assumption | (simp [*]; done)) _ _ | exact World.grownBy.cell HG4.out (by first | assumption | (simp [*]; done)) (fun e => by have := (ho.out.lt _ e.symm).2; dsimp only at this; omega))
                            clear hK K
                            (try simp only [Act.put, List.setIfInBounds_toArray, List.set_cons_zero, List.set_cons_succ])
                            refine wpAnyH_ready (rs := [14]) (by kernel_rfl) (by simp) ?_
                            refine AllReadyH.cons rfl (fun K hK => ?_) ?_
                            · rw [if_pos (by rfl)]
                              refine wp_append_own _ _ _ 28 rfl (w.heap.size + 1) 5 i0 (.int .u8 0) 1 1 Tryd.underlying28 hi hz0 hz1 hz2 rfl (by decide) _ _ _ rfl (Own.below ho.out (by repeat (first | with_reducible exact Below.refl _ _ | with_reducible refine below_alloc' ?_ _ | with_reducible refine Lib.below_freeze ?_ (by dsimp only; omega) _ | with_reducible refine Below.drew ?_ | with_reducible refine below_then ?_ (by assumption)))) ⟨g3, o3, none⟩ m3 d3 (Lib.byteCells (line (rdL (I.R k)))) rfl (by simp [Lib.byteCells]; exact HR3.out.1.symm) HR3.out.2.2 (byteCells_one _) (by unfold maxLen; omega) (by omega) (by omega) ?_
                              intro v4 w4 hown4 hgrow4 _
                              have HO5 : Hid (Own (w.heap.size + 1) w4 v4 (rowsR I (k + 1))) := by rw [rowsR_succ]; exact own_app HR3.out.1 hown4
                              have HB5 : Hid (Below w.heap.size w w4) := (below_then hb.out (by repeat (first | with_reducible exact Below.refl _ _ | with_reducible refine below_alloc' ?_ _ | with_reducible refine Lib.below_freeze ?_ (by dsimp only; omega) _ | with_reducible refine Below.drew ?_ | with_reducible refine below_then ?_ (by assumption)))).grown hgrow4 (by omega) (fun k hk => Nat.le_of_succ_le (ho.out.lt k hk).1)
                              have HX5 := Hid.mk (blk_grown (blk_below hx.out (by repeat (first | with_reducible exact Below.refl _ _ | with_reducible refine below_alloc' ?_ _ | with_reducible refine Lib.below_freeze ?_ (by dsimp only; omega) _ | with_reducible refine Below.drew ?_ | with_reducible refine below_then ?_ (by assumption)))) hgrow4 (fun e => by have := (ho.out.lt _ e).1; omega))
                              have HG4 := Hid.mk hgrow4
                              clear hown4 hgrow4
                              refine hK.out _ _ ?_ (fun hHeld => ?_)
                              · (try dsimp only); first | (go_keep; done) | ((repeat' constructor) <;> first | exact cell_keep hb1 (by first | assumption | (simp [*]; done)) | exact cell_freeze (by first | assumption | (simp [*]; done)) _ _ | exact World.grownBy.cell HG4.out (by first | assumption | (simp [*]; done)) (fun e => by have := (ho.out.lt _ e.symm).2; dsimp only at this; omega))
                              clear hK K
                              (try simp only [Act.put, List.setIfInBounds_toArray, List.set_cons_zero, List.set_cons_succ])
                              refine wpAnyH_ready (rs := [15]) (by kernel_rfl) (by simp) ?_
                              refine AllReadyH.cons rfl (fun K hK => ?_) ?_
                              · go_simp
                                refine hK.out _ _ ?_ (fun hHeld => ?_)
                                · (try dsimp only); first | (go_keep; done) | ((repeat' constructor) <;> first | exact cell_keep hb1 (by first | assumption | (simp [*]; done)) | exact cell_freeze (by first | assumption | (simp [*]; done)) _ _ | exact World.grownBy.cell HG4.out (by first | assumption | (simp [*]; done)) (fun e => by have := (ho.out.lt _ e.symm).2; dsimp only at this; omega))
                                clear hK K
                                (try simp only [Act.put, List.setIfInBounds_toArray, List.set_cons_zero, List.set_cons_succ])
                                refine wpAnyH_done (by kernel_rfl) ?_ _
                                go_wp2
                                exact ⟨⟨k + 1, by omega, by go_num, HO5, HB5, HX5⟩, by simp [intOf]; omega⟩
                              exact AllReadyH.nil
                            exact AllReadyH.nil
                          exact AllReadyH.nil
                        exact AllReadyH.nil
                      exact AllReadyH.nil
                    refine AllReadyH.cons rfl (fun K hK => ?_) ?_
                    · go_simp
                      refine (decimalR _ _ (by omega) (by omega)).mono ?_
                      rintro e w1 ⟨g1, o1, n1, c1, rfl, hg1, hr1, hb1⟩
                      have hzz := hb1.size
                      (try simp only [size_freeze, size_drew, World.size_alloc] at hzz)
                      (first | (have hq := blk_below hq hb1; have hkc := kd.out _ _ _ _ 4 4 hq) | (have hq := lit_atd #[.int .u8 114, .int .u8 111, .int .u8 97, .int .u8 100] 5 hb1; (try simp only [World.size_alloc] at hq); have hkc := kd.out _ _ _ _ 4 4 hq) | (have hq := lit_at #[.int .u8 114, .int .u8 111, .int .u8 97, .int .u8 100] 5 hb1; (try simp only [World.size_alloc] at hq); have hkc := kd.out _ _ _ _ 4 4 hq) | skip)
                      go_wp2_with fail
                      refine hK.out _ _ ?_ (fun hHeld => ?_)
                      · (try dsimp only); first | (go_keep; done) | ((repeat' constructor) <;> first | exact cell_keep hb1 (by first | assumption | (simp [*]; done)) | exact cell_freeze (by first | assumption | (simp [*]; done)) _ _ | exact World.grownBy.cell HG4.out (by first | assumption | (simp [*]; done)) (fun e => by have := (ho.out.lt _ e.symm).2; dsimp only at this; omega))
                      clear hK K
                      (try simp only [Act.put, List.setIfInBounds_toArray, List.set_cons_zero, List.set_cons_succ])
                      refine wpAnyH_ready (rs := [2]) (by kernel_rfl) (by simp) ?_
                      refine AllReadyH.cons rfl (fun K hK => ?_) ?_
                      · go_simp
                        refine hK.out _ _ ?_ (fun hHeld => ?_)
                        · (try dsimp only); first | (go_keep; done) | ((repeat' constructor) <;> first | exact cell_keep hb1 (by first | assumption | (simp [*]; done)) | exact cell_freeze (by first | assumption | (simp [*]; done)) _ _ | exact World.grownBy.cell HG4.out (by first | assumption | (simp [*]; done)) (fun e => by have := (ho.out.lt _ e.symm).2; dsimp only at this; omega))
                        clear hK K
                        (try simp only [Act.put, List.setIfInBounds_toArray, List.set_cons_zero, List.set_cons_succ])
                        refine wpAnyH_ready (rs := [12]) (by kernel_rfl) (by simp) ?_
                        refine AllReadyH.cons rfl (fun K hK => ?_) ?_
                        · go_simp
                          refine hK.out _ _ ?_ (fun hHeld => ?_)
                          · (try dsimp only); first | (go_keep; done) | ((repeat' constructor) <;> first | exact cell_keep hb1 (by first | assumption | (simp [*]; done)) | exact cell_freeze (by first | assumption | (simp [*]; done)) _ _ | exact World.grownBy.cell HG4.out (by first | assumption | (simp [*]; done)) (fun e => by have := (ho.out.lt _ e.symm).2; dsimp only at this; omega))
                          clear hK K
                          (try simp only [Act.put, List.setIfInBounds_toArray, List.set_cons_zero, List.set_cons_succ])
                          refine wpAnyH_ready (rs := [13]) (by kernel_rfl) (by simp) ?_
                          refine AllReadyH.cons rfl (fun K hK => ?_) ?_
                          · go_simp
                            refine (joinN (rdL (I.R k)) _ _ 0 4 4 _ rfl ?hF (cells_of_blk (blk_new _ _)) (by simp [rdL]) hsm.out).mono ?_
                            case hF =>
                              refine ⟨⟨_, _, _, _, rfl, Nat.zero_le _, ?_⟩, ⟨_, _, _, _, rfl, Nat.zero_le _, ?_⟩, ⟨_, _, _, _, rfl, Nat.zero_le _, ?_⟩, ⟨_, _, _, _, rfl, Nat.zero_le _, ?_⟩, trivial⟩
                              · repeat (first | ((with_reducible refine Rb.newn ?_ ?_) <;> rfl) | ((with_reducible refine Rb.newn1 ?_ ?_) <;> rfl) | with_reducible refine Rb.alloc ?_ _ | with_reducible refine Rb.freeze ?_ _ _ | with_reducible refine Rb.drew ?_ | ((with_reducible refine Rb.blkn (by assumption) ?_ ?_) <;> rfl) | with_reducible refine Rb.below ?_ (by assumption))
                              · repeat (first | with_reducible assumption | with_reducible refine Rb.alloc ?_ _ | with_reducible refine Rb.freeze ?_ _ _ | with_reducible refine Rb.drew ?_ | with_reducible refine Rb.below ?_ (by assumption))
                              · repeat (first | with_reducible assumption | with_reducible refine Rb.alloc ?_ _ | with_reducible refine Rb.freeze ?_ _ _ | with_reducible refine Rb.drew ?_ | with_reducible refine Rb.below ?_ (by assumption))
                              · repeat (first | with_reducible assumption | with_reducible refine Rb.alloc ?_ _ | with_reducible refine Rb.freeze ?_ _ _ | with_reducible refine Rb.drew ?_ | with_reducible refine Rb.below ?_ (by assumption))
                            rintro e w1 ⟨g3, o3, m3, d3, rfl, hr3, hb1⟩
                            have hzz := hb1.size
                            (try simp only [size_freeze, size_drew, World.size_alloc] at hzz)
                            have hln : m3 ≤ 600 := by rw [hr3.1]; exact line_len (by simp [rdL]) hsm.out
                            have HR3 := Hid.mk hr3
                            clear hr3
                            go_wp2_with fail
                            refine hK.out _ _ ?_ (fun hHeld => ?_)
                            · (try dsimp only); first | (go_keep; done) | ((repeat' constructor) <;> first | exact cell_keep hb1 (by first | assumption | (simp [*]; done)) | exact cell_freeze (by first | assumption | (simp [*]; done)) _ _ | exact World.grownBy.cell HG4.out (by first | assumption | (simp [*]; done)) (fun e => by have := (ho.out.lt _ e.symm).2; dsimp only at this; omega))
                            clear hK K
                            (try simp only [Act.put, List.setIfInBounds_toArray, List.set_cons_zero, List.set_cons_succ])
                            refine wpAnyH_ready (rs := [14]) (by kernel_rfl) (by simp) ?_
                            refine AllReadyH.cons rfl (fun K hK => ?_) ?_
                            · rw [if_pos (by rfl)]
                              refine wp_append_own _ _ _ 28 rfl (w.heap.size + 1) 5 i0 (.int .u8 0) 1 1 Tryd.underlying28 hi hz0 hz1 hz2 rfl (by decide) _ _ _ rfl (Own.below ho.out (by repeat (first | with_reducible exact Below.refl _ _ | with_reducible refine below_alloc' ?_ _ | with_reducible refine Lib.below_freeze ?_ (by dsimp only; omega) _ | with_reducible refine Below.drew ?_ | with_reducible refine below_then ?_ (by assumption)))) ⟨g3, o3, none⟩ m3 d3 (Lib.byteCells (line (rdL (I.R k)))) rfl (by simp [Lib.byteCells]; exact HR3.out.1.symm) HR3.out.2.2 (byteCells_one _) (by unfold maxLen; omega) (by omega) (by omega) ?_
                              intro v4 w4 hown4 hgrow4 _
                              have HO5 : Hid (Own (w.heap.size + 1) w4 v4 (rowsR I (k + 1))) := by rw [rowsR_succ]; exact own_app HR3.out.1 hown4
                              have HB5 : Hid (Below w.heap.size w w4) := (below_then hb.out (by repeat (first | with_reducible exact Below.refl _ _ | with_reducible refine below_alloc' ?_ _ | with_reducible refine Lib.below_freeze ?_ (by dsimp only; omega) _ | with_reducible refine Below.drew ?_ | with_reducible refine below_then ?_ (by assumption)))).grown hgrow4 (by omega) (fun k hk => Nat.le_of_succ_le (ho.out.lt k hk).1)
                              have HX5 := Hid.mk (blk_grown (blk_below hx.out (by repeat (first | with_reducible exact Below.refl _ _ | with_reducible refine below_alloc' ?_ _ | with_reducible refine Lib.below_freeze ?_ (by dsimp only; omega) _ | with_reducible refine Below.drew ?_ | with_reducible refine below_then ?_ (by assumption)))) hgrow4 (fun e => by have := (ho.out.lt _ e).1; omega))
                              have HG4 := Hid.mk hgrow4
                              clear hown4 hgrow4
                              refine hK.out _ _ ?_ (fun hHeld => ?_)
                              · (try dsimp only); first | (go_keep; done) | ((repeat' constructor) <;> first | exact cell_keep hb1 (by first | assumption | (simp [*]; done)) | exact cell_freeze (by first | assumption | (simp [*]; done)) _ _ | exact World.grownBy.cell HG4.out (by first | assumption | (simp [*]; done)) (fun e => by have := (ho.out.lt _ e.symm).2; dsimp only at this; omega))
                              clear hK K
                              (try simp only [Act.put, List.setIfInBounds_toArray, List.set_cons_zero, List.set_cons_succ])
                              refine wpAnyH_ready (rs := [15]) (by kernel_rfl) (by simp) ?_
                              refine AllReadyH.cons rfl (fun K hK => ?_) ?_
                              · go_simp
                                refine hK.out _ _ ?_ (fun hHeld => ?_)
                                · (try dsimp only); first | (go_keep; done) | ((repeat' constructor) <;> first | exact cell_keep hb1 (by first | assumption | (simp [*]; done)) | exact cell_freeze (by first | assumption | (simp [*]; done)) _ _ | exact World.grownBy.cell HG4.out (by first | assumption | (simp [*]; done)) (fun e => by have := (ho.out.lt _ e.symm).2; dsimp only at this; omega))
                                clear hK K
                                (try simp only [Act.put, List.setIfInBounds_toArray, List.set_cons_zero, List.set_cons_succ])
                                refine wpAnyH_done (by kernel_rfl) ?_ _
                                go_wp2
                                exact ⟨⟨k + 1, by omega, by go_num, HO5, HB5, HX5⟩, by simp [intOf]; omega⟩
                              exact AllReadyH.nil
                            exact AllReadyH.nil
                          exact AllReadyH.nil
                        exact AllReadyH.nil
                      exact AllReadyH.nil
                    exact AllReadyH.nil
                  exact AllReadyH.nil
                refine AllReadyH.cons rfl (fun K hK => ?_) ?_
                · go_simp
                  refine (decimalR _ _ (by omega) (by omega)).mono ?_
                  rintro e w1 ⟨g1, o1, n1, c1, rfl, hg1, hr1, hb1⟩
                  have hzz := hb1.size
                  (try simp only [size_freeze, size_drew, World.size_alloc] at hzz)
                  (first | (have hq := blk_below hq hb1; have hkc := kd.out _ _ _ _ 4 4 hq) | (have hq := lit_atd #[.int .u8 114, .int .u8 111, .int .u8 97, .int .u8 100] 5 hb1; (try simp only [World.size_alloc] at hq); have hkc := kd.out _ _ _ _ 4 4 hq) | (have hq := lit_at #[.int .u8 114, .int .u8 111, .int .u8 97, .int .u8 100] 5 hb1; (try simp only [World.size_alloc] at hq); have hkc := kd.out _ _ _ _ 4 4 hq) | skip)
                  go_wp2_with fail
                  refine hK.out _ _ ?_ (fun hHeld => ?_)
                  · (try dsimp only); first | (go_keep; done) | ((repeat' constructor) <;> first | exact cell_keep hb1 (by first | assumption | (simp [*]; done)) | exact cell_freeze (by first | assumption | (simp [*]; done)) _ _ | exact World.grownBy.cell HG4.out (by first | assumption | (simp [*]; done)) (fun e => by have := (ho.out.lt _ e.symm).2; dsimp only at this; omega))
                  clear hK K
                  (try simp only [Act.put, List.setIfInBounds_toArray, List.set_cons_zero, List.set_cons_succ])
                  refine wpAnyH_ready (rs := [1, 11]) (by kernel_rfl) (by simp) ?_
                  refine AllReadyH.cons rfl (fun K hK => ?_) ?_
                  · go_simp
                    refine hK.out _ _ ?_ (fun hHeld => ?_)
                    · (try dsimp only); first | (go_keep; done) | ((repeat' constructor) <;> first | exact cell_keep hb1 (by first | assumption | (simp [*]; done)) | exact cell_freeze (by first | assumption | (simp [*]; done)) _ _ | exact World.grownBy.cell HG4.out (by first | assumption | (simp [*]; done)) (fun e => by have := (ho.out.lt _ e.symm).2; dsimp only at this; omega))
                    clear hK K
                    (try simp only [Act.put, List.setIfInBounds_toArray, List.set_cons_zero, List.set_cons_succ])
                    refine wpAnyH_ready (rs := [2, 11]) (by kernel_rfl) (by simp) ?_
                    refine AllReadyH.cons rfl (fun K hK => ?_) ?_
                    · go_simp
                      refine hK.out _ _ ?_ (fun hHeld => ?_)
                      · (try dsimp only); first | (go_keep; done) | ((repeat' constructor) <;> first | exact cell_keep hb1 (by first | assumption | (simp [*]; done)) | exact cell_freeze (by first | assumption | (simp [*]; done)) _ _ | exact World.grownBy.cell HG4.out (by first | assumption | (simp [*]; done)) (fun e => by have := (ho.out.lt _ e.symm).2; dsimp only at this; omega))
                      clear hK K
                      (try simp only [Act.put, List.setIfInBounds_toArray, List.set_cons_zero, List.set_cons_succ])
                      refine wpAnyH_ready (rs := [11]) (by kernel_rfl) (by simp) ?_
                      refine AllReadyH.cons rfl (fun K hK => ?_) ?_
                      · go_simp
                        refine (decimalR _ _ (by omega) (by omega)).mono ?_
                        rintro e w1 ⟨g1, o1, n1, c1, rfl, hg1, hr1, hb1⟩
                        have hzz := hb1.size
                        (try simp only [size_freeze, size_drew, World.size_alloc] at hzz)
                        (first | (have hq := blk_below hq hb1; have hkc := kd.out _ _ _ _ 4 4 hq) | (have hq := lit_atd #[.int .u8 114, .int .u8 111, .int .u8 97, .int .u8 100] 5 hb1; (try simp only [World.size_alloc] at hq); have hkc := kd.out _ _ _ _ 4 4 hq) | (have hq := lit_at #[.int .u8 114, .int .u8 111, .int .u8 97, .int .u8 100] 5 hb1; (try simp only [World.size_alloc] at hq); have hkc := kd.out _ _ _ _ 4 4 hq) | skip)
                        go_wp2_with fail
                        refine hK.out _ _ ?_ (fun hHeld => ?_)
                        · (try dsimp only); first | (go_keep; done) | ((repeat' constructor) <;> first | exact cell_keep hb1 (by first | assumption | (simp [*]; done)) | exact cell_freeze (by first | assumption | (simp [*]; done)) _ _ | exact World.grownBy.cell HG4.out (by first | assumption | (simp [*]; done)) (fun e => by have := (ho.out.lt _ e.symm).2; dsimp only at this; omega))
                        clear hK K
                        (try simp only [Act.put, List.setIfInBounds_toArray, List.set_cons_zero, List.set_cons_succ])
                        refine wpAnyH_ready (rs := [12]) (by kernel_rfl) (by simp) ?_
                        refine AllReadyH.cons rfl (fun K hK => ?_) ?_
                        · go_simp
                          refine hK.out _ _ ?_ (fun hHeld => ?_)
                          · (try dsimp only); first | (go_keep; done) | ((repeat' constructor) <;> first | exact cell_keep hb1 (by first | assumption | (simp [*]; done)) | exact cell_freeze (by first | assumption | (simp [*]; done)) _ _ | exact World.grownBy.cell HG4.out (by first | assumption | (simp [*]; done)) (fun e => by have := (ho.out.lt _ e.symm).2; dsimp only at this; omega))
                          clear hK K
                          (try simp only [Act.put, List.setIfInBounds_toArray, List.set_cons_zero, List.set_cons_succ])
                          refine wpAnyH_ready (rs := [13]) (by kernel_rfl) (by simp) ?_
                          refine AllReadyH.cons rfl (fun K hK => ?_) ?_
                          · go_simp
                            refine (joinN (rdL (I.R k)) _ _ 0 4 4 _ rfl ?hF (cells_of_blk (blk_new _ _)) (by simp [rdL]) hsm.out).mono ?_
                            case hF =>
                              refine ⟨⟨_, _, _, _, rfl, Nat.zero_le _, ?_⟩, ⟨_, _, _, _, rfl, Nat.zero_le _, ?_⟩, ⟨_, _, _, _, rfl, Nat.zero_le _, ?_⟩, ⟨_, _, _, _, rfl, Nat.zero_le _, ?_⟩, trivial⟩
                              · repeat (first | ((with_reducible refine Rb.newn ?_ ?_) <;> rfl) | ((with_reducible refine Rb.newn1 ?_ ?_) <;> rfl) | with_reducible refine Rb.alloc ?_ _ | with_reducible refine Rb.freeze ?_ _ _ | with_reducible refine Rb.drew ?_ | ((with_reducible refine Rb.blkn (by assumption) ?_ ?_) <;> rfl) | with_reducible refine Rb.below ?_ (by assumption))
                              · repeat (first | with_reducible assumption | with_reducible refine Rb.alloc ?_ _ | with_reducible refine Rb.freeze ?_ _ _ | with_reducible refine Rb.drew ?_ | with_reducible refine Rb.below ?_ (by assumption))
                              · repeat (first | with_reducible assumption | with_reducible refine Rb.alloc ?_ _ | with_reducible refine Rb.freeze ?_ _ _ | with_reducible refine Rb.drew ?_ | with_reducible refine Rb.below ?_ (by assumption))
                              · repeat (first | with_reducible assumption | with_reducible refine Rb.alloc ?_ _ | with_reducible refine Rb.freeze ?_ _ _ | with_reducible refine Rb.drew ?_ | with_reducible refine Rb.below ?_ (by assumption))
                            rintro e w1 ⟨g3, o3, m3, d3, rfl, hr3, hb1⟩
                            have hzz := hb1.size
                            (try simp only [size_freeze, size_drew, World.size_alloc] at hzz)
                            have hln : m3 ≤ 600 := by rw [hr3.1]; exact line_len (by simp [rdL]) hsm.out
                            have HR3 := Hid.mk hr3
                            clear hr3
                            go_wp2_with fail
                            refine hK.out _ _ ?_ (fun hHeld => ?_)
                            · (try dsimp only); first | (go_keep; done) | ((repeat' constructor) <;> first | exact cell_keep hb1 (by first | assumption | (simp [*]; done)) | exact cell_freeze (by first | assumption | (simp [*]; done)) _ _ | exact World.grownBy.cell HG4.out (by first | assumption | (simp [*]; done)) (fun e => by have := (ho.out.lt _ e.symm).2; dsimp only at this; omega))
                            clear hK K
                            (try simp only [Act.put, List.setIfInBounds_toArray, List.set_cons_zero, List.set_cons_succ])
                            refine wpAnyH_ready (rs := [14]) (by kernel_rfl) (by simp) ?_
                            refine AllReadyH.cons rfl (fun K hK => ?_) ?_
                            · rw [if_pos (by rfl)]
                              refine wp_append_own _ _ _ 28 rfl (w.heap.size + 1) 5 i0 (.int .u8 0) 1 1 Tryd.underlying28 hi hz0 hz1 hz2 rfl (by decide) _ _ _ rfl (Own.below ho.out (by repeat (first | with_reducible exact Below.refl _ _ | with_reducible refine below_alloc' ?_ _ | with_reducible refine Lib.below_freeze ?_ (by dsimp only; omega) _ | with_reducible refine Below.drew ?_ | with_reducible refine below_then ?_ (by assumption)))) ⟨g3, o3, none⟩ m3 d3 (Lib.byteCells (line (rdL (I.R k)))) rfl (by simp [Lib.byteCells]; exact HR3.out.1.symm) HR3.out.2.2 (byteCells_one _) (by unfold maxLen; omega) (by omega) (by omega) ?_
                              intro v4 w4 hown4 hgrow4 _
                              have HO5 : Hid (Own (w.heap.size + 1) w4 v4 (rowsR I (k + 1))) := by rw [rowsR_succ]; exact own_app HR3.out.1 hown4
                              have HB5 : Hid (Below w.heap.size w w4) := (below_then hb.out (by repeat (first | with_reducible exact Below.refl _ _ | with_reducible refine below_alloc' ?_ _ | with_reducible refine Lib.below_freeze ?_ (by dsimp only; omega) _ | with_reducible refine Below.drew ?_ | with_reducible refine below_then ?_ (by assumption)))).grown hgrow4 (by omega) (fun k hk => Nat.le_of_succ_le (ho.out.lt k hk).1)
                              have HX5 := Hid.mk (blk_grown (blk_below hx.out (by repeat (first | with_reducible exact Below.refl _ _ | with_reducible refine below_alloc' ?_ _ | with_reducible refine Lib.below_freeze ?_ (by dsimp only; omega) _ | with_reducible refine Below.drew ?_ | with_reducible refine below_then ?_ (by assumption)))) hgrow4 (fun e => by have := (ho.out.lt _ e).1; omega))
                              have HG4 := Hid.mk hgrow4
                              clear hown4 hgrow4
                              refine hK.out _ _ ?_ (fun hHeld => ?_)
                              · (try dsimp only); first | (go_keep; done) | ((repeat' constructor) <;> first | exact cell_keep hb1 (by first | assumption | (simp [*]; done)) | exact cell_freeze (by first | assumption | (simp [*]; done)) _ _ | exact World.grownBy.cell HG4.out (by first | assumption | (simp [*]; done)) (fun e => by have := (ho.out.lt _ e.symm).2; dsimp only at this; omega))
                              clear hK K
                              (try simp only [Act.put, List.setIfInBounds_toArray, List.set_cons_zero, List.set_cons_succ])
                              refine wpAnyH_ready (rs := [15]) (by kernel_rfl) (by simp) ?_
                              refine AllReadyH.cons rfl (fun K hK => ?_) ?_
                              · go_simp
                                refine hK.out _ _ ?_ (fun hHeld => ?_)
                                · (try dsimp only); first | (go_keep; done) | ((repeat' constructor) <;> first | exact cell_keep hb1 (by first | assumption | (simp [*]; done)) | exact cell_freeze (by first | assumption | (simp [*]; done)) _ _ | exact World.grownBy.cell HG4.out (by first | assumption | (simp [*]; done)) (fun e => by have := (ho.out.lt _ e.symm).2; dsimp only at this; omega))
                                clear hK K
                                (try simp only [Act.put, List.setIfInBounds_toArray, List.set_cons_zero, List.set_cons_succ])
                                refine wpAnyH_done (by kernel_rfl) ?_ _
                                go_wp2
                                exact ⟨⟨k + 1, by omega, by go_num, HO5, HB5, HX5⟩, by simp [intOf]; omega⟩
                              exact AllReadyH.nil
                            exact AllReadyH.nil
                          exact AllReadyH.nil
                        exact AllReadyH.nil
                      exact AllReadyH.nil
                    refine AllReadyH.cons rfl (fun K hK => ?_) ?_
                    · go_simp
                      refine (decimalR _ _ (by omega) (by omega)).mono ?_
                      rintro e w1 ⟨g1, o1, n1, c1, rfl, hg1, hr1, hb1⟩
                      have hzz := hb1.size
                      (try simp only [size_freeze, size_drew, World.size_alloc] at hzz)
                      (first | (have hq := blk_below hq hb1; have hkc := kd.out _ _ _ _ 4 4 hq) | (have hq := lit_atd #[.int .u8 114, .int .u8 111, .int .u8 97, .int .u8 100] 5 hb1; (try simp only [World.size_alloc] at hq); have hkc := kd.out _ _ _ _ 4 4 hq) | (have hq := lit_at #[.int .u8 114, .int .u8 111, .int .u8 97, .int .u8 100] 5 hb1; (try simp only [World.size_alloc] at hq); have hkc := kd.out _ _ _ _ 4 4 hq) | skip)
                      go_wp2_with fail
                      refine hK.out _ _ ?_ (fun hHeld => ?_)
                      · (try dsimp only); first | (go_keep; done) | ((repeat' constructor) <;> first | exact cell_keep hb1 (by first | assumption | (simp [*]; done)) | exact cell_freeze (by first | assumption | (simp [*]; done)) _ _ | exact World.grownBy.cell HG4.out (by first | assumption | (simp [*]; done)) (fun e => by have := (ho.out.lt _ e.symm).2; dsimp only at this; omega))
                      clear hK K
                      (try simp only [Act.put, List.setIfInBounds_toArray, List.set_cons_zero, List.set_cons_succ])
                      refine wpAnyH_ready (rs := [2]) (by kernel_rfl) (by simp) ?_
                      refine AllReadyH.cons rfl (fun K hK => ?_) ?_
                      · go_simp
                        refine hK.out _ _ ?_ (fun hHeld => ?_)
                        · (try dsimp only); first | (go_keep; done) | ((repeat' constructor) <;> first | exact cell_keep hb1 (by first | assumption | (simp [*]; done)) | exact cell_freeze (by first | assumption | (simp [*]; done)) _ _ | exact World.grownBy.cell HG4.out (by first | assumption | (simp [*]; done)) (fun e => by have := (ho.out.lt _ e.symm).2; dsimp only at this; omega))
                        clear hK K
                        (try simp only [Act.put, List.setIfInBounds_toArray, List.set_cons_zero, List.set_cons_succ])
                        refine wpAnyH_ready (rs := [12]) (by kernel_rfl) (by simp) ?_
                        refine AllReadyH.cons rfl (fun K hK => ?_) ?_
                        · go_simp
                          refine hK.out _ _ ?_ (fun hHeld => ?_)
                          · (try dsimp only); first | (go_keep; done) | ((repeat' constructor) <;> first | exact cell_keep hb1 (by first | assumption | (simp [*]; done)) | exact cell_freeze (by first | assumption | (simp [*]; done)) _ _ | exact World.grownBy.cell HG4.out (by first | assumption | (simp [*]; done)) (fun e => by have := (ho.out.lt _ e.symm).2; dsimp only at this; omega))
                          clear hK K
                          (try simp only [Act.put, List.setIfInBounds_toArray, List.set_cons_zero, List.set_cons_succ])
                          refine wpAnyH_ready (rs := [13]) (by kernel_rfl) (by simp) ?_
                          refine AllReadyH.cons rfl (fun K hK => ?_) ?_
                          · go_simp
                            refine (joinN (rdL (I.R k)) _ _ 0 4 4 _ rfl ?hF (cells_of_blk (blk_new _ _)) (by simp [rdL]) hsm.out).mono ?_
                            case hF =>
                              refine ⟨⟨_, _, _, _, rfl, Nat.zero_le _, ?_⟩, ⟨_, _, _, _, rfl, Nat.zero_le _, ?_⟩, ⟨_, _, _, _, rfl, Nat.zero_le _, ?_⟩, ⟨_, _, _, _, rfl, Nat.zero_le _, ?_⟩, trivial⟩
                              · repeat (first | ((with_reducible refine Rb.newn ?_ ?_) <;> rfl) | ((with_reducible refine Rb.newn1 ?_ ?_) <;> rfl) | with_reducible refine Rb.alloc ?_ _ | with_reducible refine Rb.freeze ?_ _ _ | with_reducible refine Rb.drew ?_ | ((with_reducible refine Rb.blkn (by assumption) ?_ ?_) <;> rfl) | with_reducible refine Rb.below ?_ (by assumption))
                              · repeat (first | with_reducible assumption | with_reducible refine Rb.alloc ?_ _ | with_reducible refine Rb.freeze ?_ _ _ | with_reducible refine Rb.drew ?_ | with_reducible refine Rb.below ?_ (by assumption))
                              · repeat (first | with_reducible assumption | with_reducible refine Rb.alloc ?_ _ | with_reducible refine Rb.freeze ?_ _ _ | with_reducible refine Rb.drew ?_ | with_reducible refine Rb.below ?_ (by assumption))
                              · repeat (first | with_reducible assumption | with_reducible refine Rb.alloc ?_ _ | with_reducible refine Rb.freeze ?_ _ _ | with_reducible refine Rb.drew ?_ | with_reducible refine Rb.below ?_ (by assumption))
                            rintro e w1 ⟨g3, o3, m3, d3, rfl, hr3, hb1⟩
                            have hzz := hb1.size
                            (try simp only [size_freeze, size_drew, World.size_alloc] at hzz)
                            have hln : m3 ≤ 600 := by rw [hr3.1]; exact line_len (by simp [rdL]) hsm.out
                            have HR3 := Hid.mk hr3
                            clear hr3
                            go_wp2_with fail
                            refine hK.out _ _ ?_ (fun hHeld => ?_)
                            · (try dsimp only); first | (go_keep; done) | ((repeat' constructor) <;> first | exact cell_keep hb1 (by first | assumption | (simp [*]; done)) | exact cell_freeze (by first | assumption | (simp [*]; done)) _ _ | exact World.grownBy.cell HG4.out (by first | assumption | (simp [*]; done)) (fun e => by have := (ho.out.lt _ e.symm).2; dsimp only at this; omega))
                            clear hK K
                            (try simp only [Act.put, List.setIfInBounds_toArray, List.set_cons_zero, List.set_cons_succ])
                            refine wpAnyH_ready (rs := [14]) (by kernel_rfl) (by simp) ?_
                            refine AllReadyH.cons rfl (fun K hK => ?_) ?_
                            · rw [if_pos (by rfl)]
                              refine wp_append_own _ _ _ 28 rfl (w.heap.size + 1) 5 i0 (.int .u8 0) 1 1 Tryd.underlying28 hi hz0 hz1 hz2 rfl (by decide) _ _ _ rfl (Own.below ho.out (by repeat (first | with_reducible exact Below.refl _ _ | with_reducible refine below_alloc' ?_ _ | with_reducible refine Lib.below_freeze ?_ (by dsimp only; omega) _ | with_reducible refine Below.drew ?_ | with_reducible refine below_then ?_ (by assumption)))) ⟨g3, o3, none⟩ m3 d3 (Lib.byteCells (line (rdL (I.R k)))) rfl (by simp [Lib.byteCells]; exact HR3.out.1.symm) HR3.out.2.2 (byteCells_one _) (by unfold maxLen; omega) (by omega) (by omega) ?_
                              intro v4 w4 hown4 hgrow4 _
                              have HO5 : Hid (Own (w.heap.size + 1) w4 v4 (rowsR I (k + 1))) := by rw [rowsR_succ]; exact own_app HR3.out.1 hown4
                              have HB5 : Hid (Below w.heap.size w w4) := (below_then hb.out (by repeat (first | with_reducible exact Below.refl _ _ | with_reducible refine below_alloc' ?_ _ | with_reducible refine Lib.below_freeze ?_ (by dsimp only; omega) _ | with_reducible refine Below.drew ?_ | with_reducible refine below_then ?_ (by assumption)))).grown hgrow4 (by omega) (fun k hk => Nat.le_of_succ_le (ho.out.lt k hk).1)
                              have HX5 := Hid.mk (blk_grown (blk_below hx.out (by repeat (first | with_reducible exact Below.refl _ _ | with_reducible refine below_alloc' ?_ _ | with_reducible refine Lib.below_freeze ?_ (by dsimp only; omega) _ | with_reducible refine Below.drew ?_ | with_reducible refine below_then ?_ (by assumption)))) hgrow4 (fun e => by have := (ho.out.lt _ e).1; omega))
                              have HG4 := Hid.mk hgrow4
                              clear hown4 hgrow4
                              refine hK.out _ _ ?_ (fun hHeld => ?_)
                              · (try dsimp only); first | (go_keep; done) | ((repeat' constructor) <;> first | exact cell_keep hb1 (by first | assumption | (simp [*]; done)) | exact cell_freeze (by first | assumption | (simp [*]; done)) _ _ | exact World.grownBy.cell HG4.out (by first | assumption | (simp [*]; done)) (fun e => by have := (ho.out.lt _ e.symm).2; dsimp only at this; omega))
                              clear hK K
                              (try simp only [Act.put, List.setIfInBounds_toArray, List.set_cons_zero, List.set_cons_succ])
                              refine wpAnyH_ready (rs := [15]) (by kernel_rfl) (by simp) ?_
                              refine AllReadyH.cons rfl (fun K hK => ?_) ?_
                              · go_simp
                                refine hK.out _ _ ?_ (fun hHeld => ?_)
                                · (try dsimp only); first | (go_keep; done) | ((repeat' constructor) <;> first | exact cell_keep hb1 (by first | assumption | (simp [*]; done)) | exact cell_freeze (by first | assumption | (simp [*]; done)) _ _ | exact World.grownBy.cell HG4.out (by first | assumption | (simp [*]; done)) (fun e => by have := (ho.out.lt _ e.symm).2; dsimp only at this; omega))
                                clear hK K
                                (try simp only [Act.put, List.setIfInBounds_toArray, List.set_cons_zero, List.set_cons_succ])
                                refine wpAnyH_done (by kernel_rfl) ?_ _
                                go_wp2
                                exact ⟨⟨k + 1, by omega, by go_num, HO5, HB5, HX5⟩, by simp [intOf]; omega⟩
                              exact AllReadyH.nil
                            exact AllReadyH.nil
                          exact AllReadyH.nil
                        exact AllReadyH.nil
                      exact AllReadyH.nil
                    exact AllReadyH.nil
                  refine AllReadyH.cons rfl (fun K hK => ?_) ?_
                  · go_simp
                    refine (decimalR _ _ (by omega) (by omega)).mono ?_
                    rintro e w1 ⟨g1, o1, n1, c1, rfl, hg1, hr1, hb1⟩
                    have hzz := hb1.size
                    (try simp only [size_freeze, size_drew, World.size_alloc] at hzz)
                    (first | (have hq := blk_below hq hb1; have hkc := kd.out _ _ _ _ 4 4 hq) | (have hq := lit_atd #[.int .u8 114, .int .u8 111, .int .u8 97, .int .u8 100] 5 hb1; (try simp only [World.size_alloc] at hq); have hkc := kd.out _ _ _ _ 4 4 hq) | (have hq := lit_at #[.int .u8 114, .int .u8 111, .int .u8 97, .int .u8 100] 5 hb1; (try simp only [World.size_alloc] at hq); have hkc := kd.out _ _ _ _ 4 4 hq) | skip)
                    go_wp2_with fail
                    refine hK.out _ _ ?_ (fun hHeld => ?_)
                    · (try dsimp only); first | (go_keep; done) | ((repeat' constructor) <;> first | exact cell_keep hb1 (by first | assumption | (simp [*]; done)) | exact cell_freeze (by first | assumption | (simp [*]; done)) _ _ | exact World.grownBy.cell HG4.out (by first | assumption | (simp [*]; done)) (fun e => by have := (ho.out.lt _ e.symm).2; dsimp only at this; omega))
                    clear hK K
                    (try simp only [Act.put, List.setIfInBounds_toArray, List.set_cons_zero, List.set_cons_succ])
                    refine wpAnyH_ready (rs := [1]) (by kernel_rfl) (by simp) ?_
                    refine AllReadyH.cons rfl (fun K hK => ?_) ?_
                    · go_simp
                      refine hK.out _ _ ?_ (fun hHeld => ?_)
                      · (try dsimp only); first | (go_keep; done) | ((repeat' constructor) <;> first | exact cell_keep hb1 (by first | assumption | (simp [*]; done)) | exact cell_freeze (by first | assumption | (simp [*]; done)) _ _ | exact World.grownBy.cell HG4.out (by first | assumption | (simp [*]; done)) (fun e => by have := (ho.out.lt _ e.symm).2; dsimp only at this; omega))
                      clear hK K
                      (try simp only [Act.put, List.setIfInBounds_toArray, List.set_cons_zero, List.set_cons_succ])
                      refine wpAnyH_ready (rs := [2]) (by kernel_rfl) (by simp) ?_
                      refine AllReadyH.cons rfl (fun K hK => ?_) ?_
                      · go_simp
                        refine hK.out _ _ ?_ (fun hHeld => ?_)
                        · (try dsimp only); first | (go_keep; done) | ((repeat' constructor) <;> first | exact cell_keep hb1 (by first | assumption | (simp [*]; done)) | exact cell_freeze (by first | assumption | (simp [*]; done)) _ _ | exact World.grownBy.cell HG4.out (by first | assumption | (simp [*]; done)) (fun e => by have := (ho.out.lt _ e.symm).2; dsimp only at this; omega))
                        clear hK K
                        (try simp only [Act.put, List.setIfInBounds_toArray, List.set_cons_zero, List.set_cons_succ])
                        refine wpAnyH_ready (rs := [12]) (by kernel_rfl) (by simp) ?_
                        refine AllReadyH.cons rfl (fun K hK => ?_) ?_
                        · go_simp
                          refine hK.out _ _ ?_ (fun hHeld => ?_)
                          · (try dsimp only); first | (go_keep; done) | ((repeat' constructor) <;> first | exact cell_keep hb1 (by first | assumption | (simp [*]; done)) | exact cell_freeze (by first | assumption | (simp [*]; done)) _ _ | exact World.grownBy.cell HG4.out (by first | assumption | (simp [*]; done)) (fun e => by have := (ho.out.lt _ e.symm).2; dsimp only at this; omega))
                          clear hK K
                          (try simp only [Act.put, List.setIfInBounds_toArray, List.set_cons_zero, List.set_cons_succ])
                          refine wpAnyH_ready (rs := [13]) (by kernel_rfl) (by simp) ?_
                          refine AllReadyH.cons rfl (fun K hK => ?_) ?_
                          · go_simp
                            refine (joinN (rdL (I.R k)) _ _ 0 4 4 _ rfl ?hF (cells_of_blk (blk_new _ _)) (by simp [rdL]) hsm.out).mono ?_
                            case hF =>
                              refine ⟨⟨_, _, _, _, rfl, Nat.zero_le _, ?_⟩, ⟨_, _, _, _, rfl, Nat.zero_le _, ?_⟩, ⟨_, _, _, _, rfl, Nat.zero_le _, ?_⟩, ⟨_, _, _, _, rfl, Nat.zero_le _, ?_⟩, trivial⟩
                              · repeat (first | ((with_reducible refine Rb.newn ?_ ?_) <;> rfl) | ((with_reducible refine Rb.newn1 ?_ ?_) <;> rfl) | with_reducible refine Rb.alloc ?_ _ | with_reducible refine Rb.freeze ?_ _ _ | with_reducible refine Rb.drew ?_ | ((with_reducible refine Rb.blkn (by assumption) ?_ ?_) <;> rfl) | with_reducible refine Rb.below ?_ (by assumption))
                              · repeat (first | with_reducible assumption | with_reducible refine Rb.alloc ?_ _ | with_reducible refine Rb.freeze ?_ _ _ | with_reducible refine Rb.drew ?_ | with_reducible refine Rb.below ?_ (by assumption))
                              · repeat (first | with_reducible assumption | with_reducible refine Rb.alloc ?_ _ | with_reducible refine Rb.freeze ?_ _ _ | with_reducible refine Rb.drew ?_ | with_reducible refine Rb.below ?_ (by assumption))
                              · repeat (first | with_reducible assumption | with_reducible refine Rb.alloc ?_ _ | with_reducible refine Rb.freeze ?_ _ _ | with_reducible refine Rb.drew ?_ | with_reducible refine Rb.below ?_ (by assumption))
                            rintro e w1 ⟨g3, o3, m3, d3, rfl, hr3, hb1⟩
                            have hzz := hb1.size
                            (try simp only [size_freeze, size_drew, World.size_alloc] at hzz)
                            have hln : m3 ≤ 600 := by rw [hr3.1]; exact line_len (by simp [rdL]) hsm.out
                            have HR3 := Hid.mk hr3
                            clear hr3
                            go_wp2_with fail
                            refine hK.out _ _ ?_ (fun hHeld => ?_)
                            · (try dsimp only); first | (go_keep; done) | ((repeat' constructor) <;> first | exact cell_keep hb1 (by first | assumption | (simp [*]; done)) | exact cell_freeze (by first | assumption | (simp [*]; done)) _ _ | exact World.grownBy.cell HG4.out (by first | assumption | (simp [*]; done)) (fun e => by have := (ho.out.lt _ e.symm).2; dsimp only at this; omega))
                            clear hK K
                            (try simp only [Act.put, List.setIfInBounds_toArray, List.set_cons_zero, List.set_cons_succ])
                            refine wpAnyH_ready (rs := [14]) (by kernel_rfl) (by simp) ?_
                            refine AllReadyH.cons rfl (fun K hK => ?_) ?_
                            · rw [if_pos (by rfl)]
                              refine wp_append_own _ _ _ 28 rfl (w.heap.size + 1) 5 i0 (.int .u8 0) 1 1 Tryd.underlying28 hi hz0 hz1 hz2 rfl (by decide) _ _ _ rfl (Own.below ho.out (by repeat (first | with_reducible exact Below.refl _ _ | with_reducible refine below_alloc' ?_ _ | with_reducible refine Lib.below_freeze ?_ (by dsimp only; omega) _ | with_reducible refine Below.drew ?_ | with_reducible refine below_then ?_ (by assumption)))) ⟨g3, o3, none⟩ m3 d3 (Lib.byteCells (line (rdL (I.R k)))) rfl (by simp [Lib.byteCells]; exact HR3.out.1.symm) HR3.out.2.2 (byteCells_one _) (by unfold maxLen; omega) (by omega) (by omega) ?_
                              intro v4 w4 hown4 hgrow4 _
                              have HO5 : Hid (Own (w.heap.size + 1) w4 v4 (rowsR I (k + 1))) := by rw [rowsR_succ]; exact own_app HR3.out.1 hown4
                              have HB5 : Hid (Below w.heap.size w w4) := (below_then hb.out (by repeat (first | with_reducible exact Below.refl _ _ | with_reducible refine below_alloc' ?_ _ | with_reducible refine Lib.below_freeze ?_ (by dsimp only; omega) _ | with_reducible refine Below.drew ?_ | with_reducible refine below_then ?_ (by assumption)))).grown hgrow4 (by omega) (fun k hk => Nat.le_of_succ_le (ho.out.lt k hk).1)
                              have HX5 := Hid.mk (blk_grown (blk_below hx.out (by repeat (first | with_reducible exact Below.refl _ _ | with_reducible refine below_alloc' ?_ _ | with_reducible refine Lib.below_freeze ?_ (by dsimp only; omega) _ | with_reducible refine Below.drew ?_ | with_reducible refine below_then ?_ (by assumption)))) hgrow4 (fun e => by have := (ho.out.lt _ e).1; omega))
                              have HG4 := Hid.mk hgrow4
                              clear hown4 hgrow4
                              refine hK.out _ _ ?_ (fun hHeld => ?_)
                              · (try dsimp only); first | (go_keep; done) | ((repeat' constructor) <;> first | exact cell_keep hb1 (by first | assumption | (simp [*]; done)) | exact cell_freeze (by first | assumption | (simp [*]; done)) _ _ | exact World.grownBy.cell HG4.out (by first | assumption | (simp [*]; done)) (fun e => by have := (ho.out.lt _ e.symm).2; dsimp only at this; omega))
                              clear hK K
                              (try simp only [Act.put, List.setIfInBounds_toArray, List.set_cons_zero, List.set_cons_succ])
                              refine wpAnyH_ready (rs := [15]) (by kernel_rfl) (by simp) ?_
                              refine AllReadyH.cons rfl (fun K hK => ?_) ?_
                              · go_simp
                                refine hK.out _ _ ?_ (fun hHeld => ?_)
                                · (try dsimp only); first | (go_keep; done) | ((repeat' constructor) <;> first | exact cell_keep hb1 (by first | assumption | (simp [*]; done)) | exact cell_freeze (by first | assumption | (simp [*]; done)) _ _ | exact World.grownBy.cell HG4.out (by first | assumption | (simp [*]; done)) (fun e => by have := (ho.out.lt _ e.symm).2; dsimp only at this; omega))
                                clear hK K
                                (try simp only [Act.put, List.setIfInBounds_toArray, List.set_cons_zero, List.set_cons_succ])
                                refine wpAnyH_done (by kernel_rfl) ?_ _
                                go_wp2
                                exact ⟨⟨k + 1, by omega, by go_num, HO5, HB5, HX5⟩, by simp [intOf]; omega⟩
                              exact AllReadyH.nil
                            exact AllReadyH.nil
                          exact AllReadyH.nil
                        exact AllReadyH.nil
                      exact AllReadyH.nil
                    exact AllReadyH.nil
                  exact AllReadyH.nil
                exact AllReadyH.nil
              exact AllReadyH.nil
            · have hkn : k = I.nR := by omega
              subst hkn
              go_wp2
              go_ret
              exact ⟨_, rfl, Joins.ownsRow_le ho.out (by omega), hb.out⟩
end Go.Proofs.YtdhnjkcebaahcaaDoor.Print
