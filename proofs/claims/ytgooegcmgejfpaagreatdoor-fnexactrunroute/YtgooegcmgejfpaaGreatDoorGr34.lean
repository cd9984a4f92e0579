import Derived.Test.YtgooegcmgejfpaaGreatDoorGr33
import Derived.Deep.DrawnRows
namespace Go.Proofs.YtgooegcmgejfpaaGreatDoor.Mac
open Go Go.RowKit Go.Proofs.YtgooegcmgejfpaaGreatDoor.Mem
open Go.Proofs.YtgooegcmgejfpaaGreatDoor.Arith (cl cl_bd sadd smul addS mulS addI mulI ret_int)
set_option linter.unusedVariables false
set_option linter.unusedSimpArgs false
attribute [local go_sem ↓] Go.wp_at_zero Go.wp_at_succ

set_option maxHeartbeats 3200000 in
set_option maxRecDepth 100000 in
theorem exSet (E : En) (B : Nat → Is) (n : Nat) (bl : Option Addr) (cb : Nat) (R S : Int) (nr ns f : Nat) (hrec : Rec E B n bl cb R S nr ns f) (k : Nat) (r s : List Int) (ar al : Option Addr) (cr cs : Nat) (w : World) (hf : n - k ≤ f + 1) (hM : Mst w E B n bl R S ar al nr ns r s) (hk : k < n) (p a b c : Int) (hB : B k = ⟨p, a, b, c⟩) (hok : OkI R S k n ⟨p, a, b, c⟩) (hp : p ≤ 14 ∨ p = 20) :
    Calls Tryz.prog 42 #[.slice bl n cb, .int .i64 (k : Int), .agg #[.slice ar nr cr, .slice al ns cs, .int .i64 E.tags, .int .i64 E.skills, .int .i64 E.q, .int .i64 (E.nQ : Int), .int .i64 (-1)]] w (ExPost E nr ns cr ar al (exec E B n (f + 1) k r s) w) := by
  have FarR : Hid (Far (w.heap.size + 1) ar nr) := by unfold Hid; rw [hM.hnr]; exact hM.hr.far (Nat.le_succ _)
  have FarL : Hid (Far (w.heap.size + 1) al ns) := by unfold Hid; rw [hM.hns]; exact hM.hs.far (Nat.le_succ _)
  have HM := Hid.mk hM
  have HREC := Hid.mk hrec
  rcases hM.hbl with h0 | ⟨gb, ob, rfl, hbl⟩
  · omega
  have hcs : w.rangeAt gb (ob + k * 4) (B k).cells := hbl k hk
  rw [hB] at hcs
  obtain ⟨i0, i1, i2, i3⟩ := Is.at hcs
  have gi := lt_of_cell i0
  have lr := hM.lr
  have ls := hM.ls
  have hn := hM.hn
  have hR := hM.hR
  have k0 : (0 : Int) ≤ (k : Int) := by omega
  have k1 : (k : Int) < (n : Int) := by omega
  have k2 : decide ((n : Int) ≤ (k : Int)) = false := by simp; omega
  clear hcs hbl hrec
  have p0 : 1 ≤ p := hok.p0
  have hst := hok.set hp
  have hbb : -1000000000 ≤ b ∧ b ≤ 1000000000 := by
    have h1 := hok.num
    have h2 := hok.reg
    have h3 := hok.tag
    have h4 := hok.lod
    have h5 := hM.hR
    have h6 := hM.lr
    have h7 := hM.S1
    simp only at h1 h2 h3 h4
    omega
  obtain ⟨ma, rfl⟩ : ∃ m : Nat, a = (m : Int) := ⟨a.toNat, by simp at hst; omega⟩
  simp only at hst
  have t1 : (p == 17) = false := by simp; omega
  have t2 : (p == 15) = false := by simp; omega
  have t3 : (p == 16) = false := by simp; omega
  have t4 : (p == 18) = false := by simp; omega
  have t5 : (p == 19) = false := by simp; omega
  obtain ⟨A, hA⟩ : ∃ A, A = val E ⟨p, (ma : Int), b, c⟩ r s := ⟨_, rfl⟩
  have he : exec E B n (f + 1) k r s = exec E B n f (k + 1) (r.set ma A) s := by
    rw [exec, if_neg (by omega), hB]; dsimp only; rw [if_neg (by omega)]; rw [if_neg (by omega)]; rw [if_neg (by omega)]; rw [if_neg (by omega)]; rw [if_neg (by omega)]; rw [hA]; rfl
  rw [he]
  have hbd := Hid.mk (val_bd (E := E) (x := ⟨p, (ma : Int), b, c⟩) hbb.1 hbb.2 hM.Br hM.Bs)
  rw [← hA] at hbd
  have HA := Hid.mk hA
  have HP := Hid.mk hp
  have HOK := Hid.mk hok
  have ge : ∀ b', ar = some b' → b'.block < w.heap.size := fun b' hb' => by
    obtain ⟨g, o, e, hc⟩ := hM.hr.at (i := ma) (by have := hM.hnr; omega)
    rw [e] at hb'
    cases hb'
    exact lt_of_cell hc
  have HGE := Hid.mk ge
  have a1 : ma < nr := by omega
  have hgb := Hid.mk gi
  clear he hM hok hR hB hA hbb hst hp p0 ge
  go_enter Tryz.func42, Tryz.ntmps42
  go_wp2_with fail
  obtain ⟨W, hW⟩ : ∃ W, W = (((w.alloc (.cells #[.slice ar nr cr, .slice al ns cs, .int .i64 E.tags, .int .i64 E.skills, .int .i64 E.q, .int .i64 (E.nQ : Int), .int .i64 (-1)] 83)).alloc (.cells #[.slice none 0 0, .slice none 0 0, .int .i64 0, .int .i64 0, .int .i64 0, .int .i64 0, .int .i64 0] 83)).alloc (.cells #[.int .i64 p, .int .i64 (ma : Int), .int .i64 b, .int .i64 c] 133)) := ⟨_, rfl⟩
  rw [← hW]
  have K0 : Hid (W.heap[w.heap.size]? = some (.cells #[.slice ar nr cr, .slice al ns cs, .int .i64 E.tags, .int .i64 E.skills, .int .i64 E.q, .int .i64 (E.nQ : Int), .int .i64 (-1)] 83)) := by unfold Hid; rw [hW]; exact blk_alloc (blk_alloc (blk_new _ _) _) _
  have K1 : Hid (W.heap[w.heap.size + 1]? = some (.cells #[.slice none 0 0, .slice none 0 0, .int .i64 0, .int .i64 0, .int .i64 0, .int .i64 0, .int .i64 0] 83)) := by unfold Hid; rw [hW]; exact blk_alloc (blk_new1 _ _ _) _
  have K2 : Hid (W.heap[w.heap.size + 1 + 1]? = some (.cells #[.int .i64 p, .int .i64 (ma : Int), .int .i64 b, .int .i64 c] 133)) := by unfold Hid; rw [hW]; exact blk_new2 _ _ _ _
  have HBW : Hid (Below w.heap.size w W) := by unfold Hid; rw [hW]; go_grown
  have HSZ : Hid (W.heap.size = w.heap.size + 3) := by unfold Hid; rw [hW]; simp
  clear hW
  have y0 := blk_cell K0.out 0
  have y1 := blk_cell K0.out 1
  have y2 := blk_cell K0.out 2
  have y3 := blk_cell K0.out 3
  have y4 := blk_cell K0.out 4
  have y5 := blk_cell K0.out 5
  have y6 := blk_cell K0.out 6
  have x0 := blk_cell K2.out 0
  have x1 := blk_cell K2.out 1
  have x2 := blk_cell K2.out 2
  have x3 := blk_cell K2.out 3
  simp only [List.getElem?_toArray, List.getElem?_cons_zero, List.getElem?_cons_succ] at y0 y1 y2 y3 y4 y5 y6 x0 x1 x2 x3
  have HRd : Hid (Li W.drew ar r) := HM.out.hr.below HBW.out.drew
  have HLd : Hid (Li W.drew al s) := HM.out.hs.below HBW.out.drew
  clear i0 i1 i2 i3
  refine wp_region_held_drew (S := (fun w' => w'.cell? ⟨w.heap.size + 1 + 1, 0, none⟩ = some (.int .i64 p) ∧ w'.cell? ⟨w.heap.size + 1 + 1, 1, none⟩ = some (.int .i64 (ma : Int)) ∧ w'.cell? ⟨w.heap.size + 1 + 1, 2, none⟩ = some (.int .i64 b) ∧ w'.cell? ⟨w.heap.size + 1 + 1, 3, none⟩ = some (.int .i64 c))) (by kernel_rfl) ?_ (fun hHeld => ?_)
  · exact ⟨by have := blk_cell K2.out 0; simpa using this, by have := blk_cell K2.out 1; simpa using this, by have := blk_cell K2.out 2; simpa using this, by have := blk_cell K2.out 3; simpa using this⟩
  refine wpAnyH_take (i := 0) (v := ?_) rfl (by kernel_rfl) (by kernel_rfl) (by kernel_rfl) (fun _ _ _ h => h) (Or.inl ⟨by rfl, ?_⟩) (by assumption) ?_
  rotate_left
  · intro w hSw; (try dsimp only at hSw); go_simp; (try with_reducible rfl)
  rotate_left
  simp only [Act.put, List.setIfInBounds_toArray, List.set_cons_zero, List.set_cons_succ, List.getElem_toArray, List.getElem_cons_zero, List.getElem_cons_succ]
  refine wpAnyH_take (i := 2) (v := ?_) rfl (by kernel_rfl) (by kernel_rfl) (by kernel_rfl) (fun _ _ _ h => h) (Or.inl ⟨by rfl, ?_⟩) (by assumption) ?_
  rotate_left
  · intro w hSw; (try dsimp only at hSw); go_simp; (try with_reducible rfl)
  rotate_left
  simp only [Act.put, List.setIfInBounds_toArray, List.set_cons_zero, List.set_cons_succ, List.getElem_toArray, List.getElem_cons_zero, List.getElem_cons_succ]
  refine wpAnyH_take (i := 3) (v := ?_) rfl (by kernel_rfl) (by kernel_rfl) (by kernel_rfl) (fun _ _ _ h => h) (Or.inl ⟨by rfl, ?_⟩) (by assumption) ?_
  rotate_left
  · intro w hSw; (try dsimp only at hSw); go_simp; (try with_reducible rfl)
  rotate_left
  simp only [Act.put, List.setIfInBounds_toArray, List.set_cons_zero, List.set_cons_succ, List.getElem_toArray, List.getElem_cons_zero, List.getElem_cons_succ]
  refine wpAnyH_take (i := 4) (v := ?_) rfl (by kernel_rfl) (by kernel_rfl) (by kernel_rfl) (fun _ _ _ h => h) (Or.inl ⟨by rfl, ?_⟩) (by assumption) ?_
  rotate_left
  · intro w hSw; (try dsimp only at hSw); go_simp; (try with_reducible rfl)
  rotate_left
  simp only [Act.put, List.setIfInBounds_toArray, List.set_cons_zero, List.set_cons_succ, List.getElem_toArray, List.getElem_cons_zero, List.getElem_cons_succ]
  refine wpAnyH_ready (rs := [1, 5]) (by kernel_rfl) (by simp) ?_
  refine AllReadyH.cons rfl (fun K hK => ?_) ?_
  · go_simp
    refine hK.out _ _ ?_ (fun hHeld => ?_)
    · exact hHeld
    clear hK K
    (try simp only [Act.put, List.setIfInBounds_toArray, List.set_cons_zero, List.set_cons_succ, List.getElem_toArray, List.getElem_cons_zero, List.getElem_cons_succ])
    refine wpAnyH_ready (rs := [5]) (by kernel_rfl) (by simp) ?_
    refine AllReadyH.cons rfl (fun K hK => ?_) ?_
    · go_simp
      refine hK.out _ _ ?_ (fun hHeld => ?_)
      · exact hHeld
      clear hK K
      (try simp only [Act.put, List.setIfInBounds_toArray, List.set_cons_zero, List.set_cons_succ, List.getElem_toArray, List.getElem_cons_zero, List.getElem_cons_succ])
      refine wpAnyH_ready (rs := [6]) (by kernel_rfl) (by simp) ?_
      refine AllReadyH.cons rfl (fun K hK => ?_) ?_
      · go_simp
        refine (insVal E ar al cr cs nr ns r s (-1) _ HRd.out HLd.out HM.out.hnr HM.out.hns HM.out.lr HM.out.ls HM.out.Br HM.out.Bs HM.out.hE R S k n HM.out.hR HM.out.hS HM.out.S1 p (ma : Int) b c HOK.out HP.out).mono ?_
        rintro e w1 ⟨rfl, hb1⟩
        rw [← HA.out]
        have B1 := Hid.mk (below_then HBW.out.drew hb1)
        have L0 := Hid.mk (blk_below (w := W.drew) K0.out hb1)
        have L1 := Hid.mk (blk_below (w := W.drew) K1.out hb1)
        have KK := Hid.mk (blk_below (w := W.drew) K2.out hb1)
        have HR1 := Hid.mk (HRd.out.below hb1)
        have hw1 : Hid (w.heap.size + 3 ≤ w1.heap.size) := by unfold Hid; have := hb1.size; have e : W.drew.heap.size = w.heap.size + 3 := HSZ.out; omega
        have v0 := blk_cell L0.out 0
        simp only [List.getElem?_toArray, List.getElem?_cons_zero, List.getElem?_cons_succ] at v0
        clear hb1
        refine hK.out _ _ ?_ (fun hHeld => ?_)
        · exact ⟨by have := blk_cell KK.out 0; simpa using this, by have := blk_cell KK.out 1; simpa using this, by have := blk_cell KK.out 2; simpa using this, by have := blk_cell KK.out 3; simpa using this⟩
        clear hK K
        (try simp only [Act.put, List.setIfInBounds_toArray, List.set_cons_zero, List.set_cons_succ, List.getElem_toArray, List.getElem_cons_zero, List.getElem_cons_succ])
        refine wpAnyH_ready (rs := [7]) (by kernel_rfl) (by simp) ?_
        refine AllReadyH.cons rfl (fun K hK => ?_) ?_
        · go_simp
          refine (setS ar nr cr r ma A _ HM.out.hnr HR1.out a1 (by omega)).mono ?_
          rintro e w2 ⟨g, c', rfl, hl2, hb2, hg2, hcc⟩
          have HCC := Hid.mk hcc
          have B2 := Hid.mk (below_then B1.out hb2)
          have N0 := Hid.mk (blk_below L0.out hb2)
          have N1 := Hid.mk (blk_below L1.out hb2)
          have NK := Hid.mk (blk_below KK.out hb2)
          have HL2 := Hid.mk hl2
          have hg3 : w.heap.size + 3 ≤ g := by have := hw1.out; omega
          have hw2 : w.heap.size + 3 ≤ w2.heap.size := by have := hw1.out; have := hb2.size; omega
          have u0 := blk_cell N0.out 0
          have u1 := blk_cell N0.out 1
          have u2 := blk_cell N0.out 2
          have u3 := blk_cell N0.out 3
          have u4 := blk_cell N0.out 4
          have u5 := blk_cell N0.out 5
          have u6 := blk_cell N0.out 6
          have q2 := blk_unfrozen N0.out 0
          simp only [List.getElem?_toArray, List.getElem?_cons_zero, List.getElem?_cons_succ] at u0 u1 u2 u3 u4 u5 u6
          clear hb2 hl2 hg2 hcc
          refine hK.out _ _ ?_ (fun hHeld => ?_)
          · exact ⟨by have := blk_cell NK.out 0; simpa using this, by have := blk_cell NK.out 1; simpa using this, by have := blk_cell NK.out 2; simpa using this, by have := blk_cell NK.out 3; simpa using this⟩
          clear hK K
          (try simp only [Act.put, List.setIfInBounds_toArray, List.set_cons_zero, List.set_cons_succ, List.getElem_toArray, List.getElem_cons_zero, List.getElem_cons_succ])
          refine wpAnyH_ready (rs := [8]) (by kernel_rfl) (by simp) ?_
          refine AllReadyH.cons rfl (fun K hK => ?_) ?_
          · go_simp
            refine hK.out _ _ ?_ (fun hHeld => ?_)
            · exact hHeld
            clear hK K
            (try simp only [Act.put, List.setIfInBounds_toArray, List.set_cons_zero, List.set_cons_succ, List.getElem_toArray, List.getElem_cons_zero, List.getElem_cons_succ])
            refine wpAnyH_ready (rs := [9]) (by kernel_rfl) (by simp) ?_
            refine AllReadyH.cons rfl (fun K hK => ?_) ?_
            · go_simp
              refine hK.out _ _ ?_ (fun hHeld => ?_)
              · exact ⟨by rw [World.cell?_setCell_far _ _ _ _ (by show w.heap.size ≠ w.heap.size + 1 + 1; omega)]; have := blk_cell NK.out 0; simpa using this, by rw [World.cell?_setCell_far _ _ _ _ (by show w.heap.size ≠ w.heap.size + 1 + 1; omega)]; have := blk_cell NK.out 1; simpa using this, by rw [World.cell?_setCell_far _ _ _ _ (by show w.heap.size ≠ w.heap.size + 1 + 1; omega)]; have := blk_cell NK.out 2; simpa using this, by rw [World.cell?_setCell_far _ _ _ _ (by show w.heap.size ≠ w.heap.size + 1 + 1; omega)]; have := blk_cell NK.out 3; simpa using this⟩
              clear hK K
              (try simp only [Act.put, List.setIfInBounds_toArray, List.set_cons_zero, List.set_cons_succ, List.getElem_toArray, List.getElem_cons_zero, List.getElem_cons_succ])
              refine wpAnyH_done (by kernel_rfl) ?_ _
              go_wp2_with fail
              clear u0 u1 u2 u3 u4 u5 u6 q2
              obtain ⟨Y, hY⟩ : ∃ Y, Y = w2.setCell ⟨w.heap.size, 0, none⟩ (.slice (some ⟨g, 0, none⟩) nr c') := ⟨_, rfl⟩
              rw [← hY]
              have M1 : Hid (Y.heap[w.heap.size + 1]? = some (.cells #[.slice none 0 0, .slice none 0 0, .int .i64 0, .int .i64 0, .int .i64 0, .int .i64 0, .int .i64 0] 83)) := by unfold Hid; rw [hY]; exact blk_set_other N1.out (by simp) _
              have BY : Hid (Below w.heap.size w Y) := by unfold Hid; rw [hY]; exact B2.out.setCell (Nat.le_refl _) _
              have HYS : Hid (Y.heap.size = w2.heap.size) := by unfold Hid; rw [hY, size_set]
              have FR2 : Hid (Far (w.heap.size + 1) (some ⟨g, 0, none⟩) nr) := Or.inr fun b hb' => by cases hb'; show g ≠ _; omega
              have MY : Hid (Mst Y E B n (some ⟨gb, ob, none⟩) R S (some ⟨g, 0, none⟩) al nr ns (r.set ma A) s) := by
                have h := HM.out.below B2.out
                refine ⟨?_, ?_, by rw [List.length_set]; exact h.hnr, h.hns, h.lr, h.ls, h.Br.set hbd.out.1 hbd.out.2, h.Bs, h.hR, h.hS, h.S1, h.hE, ?_, h.hn⟩
                · rw [hY]; exact HL2.out.set (Or.inr fun b hb' => by cases hb'; show g ≠ _; omega)
                · rw [hY]; refine h.hs.set ?_; have := HM.out.hs.far (G := w.heap.size) (Nat.le_refl _); exact this
                · rw [hY]
                  rcases h.hbl with h0 | ⟨b', o', hbo, h1⟩
                  · exact Or.inl h0
                  · cases hbo
                    exact Or.inr ⟨gb, ob, rfl, fun i hi => rangeAt_set_other (h1 i hi) (by show w.heap.size ≠ gb; omega) _⟩
              clear hY N0 N1 NK HL2 FarR
              have FarR := FR2
              refine (HREC.out (k + 1) (r.set ma A) s (some ⟨g, 0, none⟩) al c' cs _ (by omega) MY.out).mono ?_
              rintro e w9 ⟨ar', al', cr', cs', rfl, hr', hs', nr', ns', hb, hcp⟩
              have HCP : Hid (nr ≤ cr → nr ≤ cr') := Hid.mk (fun _ => hcp HCC.out)
              have HB := Hid.mk (below_then BY.out hb)
              have A1 := Hid.mk (blk_below M1.out hb)
              have FR := Hid.mk (FarR.out.nw nr' (by have := HYS.out; omega))
              have FL := Hid.mk (FarL.out.nw ns' (by have := HYS.out; omega))
              have NR := Hid.mk (Nw.trans (a := ar) (Or.inr fun b hb' => by cases hb'; show _ ≤ g; omega) nr' BY.out.size)
              have NL := Hid.mk (Nw.trans (Nw.refl w _) ns' BY.out.size)
              have HR := Hid.mk hr'
              have HL := Hid.mk hs'
              have LN := Hid.mk (exec_len (E := E) (B := B) (n := n) f (k + 1) (r.set ma A) s)
              clear hr' hs' nr' ns' hb hcp
              generalize exec E B n f (k + 1) (r.set ma A) s = rr at *
              have x0 := blk_cell A1.out 0
              have y0 := blk_unfrozen A1.out 0
              have x1 := blk_cell A1.out 1
              have y1 := blk_unfrozen A1.out 1
              have x2 := blk_cell A1.out 2
              have y2 := blk_unfrozen A1.out 2
              have x3 := blk_cell A1.out 3
              have y3 := blk_unfrozen A1.out 3
              have x4 := blk_cell A1.out 4
              have y4 := blk_unfrozen A1.out 4
              have x5 := blk_cell A1.out 5
              have y5 := blk_unfrozen A1.out 5
              have x6 := blk_cell A1.out 6
              have y6 := blk_unfrozen A1.out 6
              simp only [List.getElem?_toArray, List.getElem?_cons_zero, List.getElem?_cons_succ] at x0 x1 x2 x3 x4 x5 x6
              go_wp2
              refine bodyPost_ret (v := .agg #[.slice ar' nr cr', .slice al' ns cs', .int .i64 E.tags, .int .i64 E.skills, .int .i64 E.q, .int .i64 (E.nQ : Int), .int .i64 rr.2.2]) (by simp [results, Tryz.results42, go_sem, x0, x1, x2, x3, x4, x5, x6]) rfl ?_
              clear x0 x1 x2 x3 x4 x5 x6 y0 y1 y2 y3 y4 y5 y6
              exact ⟨ar', al', cr', cs', rfl, seven HR.out (by rw [LN.out.1, List.length_set, ← HM.out.hnr]; exact FR.out), seven HL.out (by rw [LN.out.2, ← HM.out.hns]; exact FL.out), NR.out, NL.out, (((((((HB.out.setCell (p := ⟨w.heap.size + 1, 0, none⟩) (Nat.le_succ _) _).setCell (p := ⟨w.heap.size + 1, 1, none⟩) (Nat.le_succ _) _).setCell (p := ⟨w.heap.size + 1, 2, none⟩) (Nat.le_succ _) _).setCell (p := ⟨w.heap.size + 1, 3, none⟩) (Nat.le_succ _) _).setCell (p := ⟨w.heap.size + 1, 4, none⟩) (Nat.le_succ _) _).setCell (p := ⟨w.heap.size + 1, 5, none⟩) (Nat.le_succ _) _).setCell (p := ⟨w.heap.size + 1, 6, none⟩) (Nat.le_succ _) _), HCP.out⟩
            exact AllReadyH.nil
          exact AllReadyH.nil
        exact AllReadyH.nil
      exact AllReadyH.nil
    exact AllReadyH.nil
  refine AllReadyH.cons rfl (fun K hK => ?_) ?_
  · go_simp
    refine hK.out _ _ ?_ (fun hHeld => ?_)
    · exact hHeld
    clear hK K
    (try simp only [Act.put, List.setIfInBounds_toArray, List.set_cons_zero, List.set_cons_succ, List.getElem_toArray, List.getElem_cons_zero, List.getElem_cons_succ])
    refine wpAnyH_ready (rs := [1, 6]) (by kernel_rfl) (by simp) ?_
    refine AllReadyH.cons rfl (fun K hK => ?_) ?_
    · go_simp
      refine hK.out _ _ ?_ (fun hHeld => ?_)
      · exact hHeld
      clear hK K
      (try simp only [Act.put, List.setIfInBounds_toArray, List.set_cons_zero, List.set_cons_succ, List.getElem_toArray, List.getElem_cons_zero, List.getElem_cons_succ])
      refine wpAnyH_ready (rs := [6]) (by kernel_rfl) (by simp) ?_
      refine AllReadyH.cons rfl (fun K hK => ?_) ?_
      · go_simp
        refine (insVal E ar al cr cs nr ns r s (-1) _ HRd.out HLd.out HM.out.hnr HM.out.hns HM.out.lr HM.out.ls HM.out.Br HM.out.Bs HM.out.hE R S k n HM.out.hR HM.out.hS HM.out.S1 p (ma : Int) b c HOK.out HP.out).mono ?_
        rintro e w1 ⟨rfl, hb1⟩
        rw [← HA.out]
        have B1 := Hid.mk (below_then HBW.out.drew hb1)
        have L0 := Hid.mk (blk_below (w := W.drew) K0.out hb1)
        have L1 := Hid.mk (blk_below (w := W.drew) K1.out hb1)
        have KK := Hid.mk (blk_below (w := W.drew) K2.out hb1)
        have HR1 := Hid.mk (HRd.out.below hb1)
        have hw1 : Hid (w.heap.size + 3 ≤ w1.heap.size) := by unfold Hid; have := hb1.size; have e : W.drew.heap.size = w.heap.size + 3 := HSZ.out; omega
        have v0 := blk_cell L0.out 0
        simp only [List.getElem?_toArray, List.getElem?_cons_zero, List.getElem?_cons_succ] at v0
        clear hb1
        refine hK.out _ _ ?_ (fun hHeld => ?_)
        · exact ⟨by have := blk_cell KK.out 0; simpa using this, by have := blk_cell KK.out 1; simpa using this, by have := blk_cell KK.out 2; simpa using this, by have := blk_cell KK.out 3; simpa using this⟩
        clear hK K
        (try simp only [Act.put, List.setIfInBounds_toArray, List.set_cons_zero, List.set_cons_succ, List.getElem_toArray, List.getElem_cons_zero, List.getElem_cons_succ])
        refine wpAnyH_ready (rs := [7]) (by kernel_rfl) (by simp) ?_
        refine AllReadyH.cons rfl (fun K hK => ?_) ?_
        · go_simp
          refine (setS ar nr cr r ma A _ HM.out.hnr HR1.out a1 (by omega)).mono ?_
          rintro e w2 ⟨g, c', rfl, hl2, hb2, hg2, hcc⟩
          have HCC := Hid.mk hcc
          have B2 := Hid.mk (below_then B1.out hb2)
          have N0 := Hid.mk (blk_below L0.out hb2)
          have N1 := Hid.mk (blk_below L1.out hb2)
          have NK := Hid.mk (blk_below KK.out hb2)
          have HL2 := Hid.mk hl2
          have hg3 : w.heap.size + 3 ≤ g := by have := hw1.out; omega
          have hw2 : w.heap.size + 3 ≤ w2.heap.size := by have := hw1.out; have := hb2.size; omega
          have u0 := blk_cell N0.out 0
          have u1 := blk_cell N0.out 1
          have u2 := blk_cell N0.out 2
          have u3 := blk_cell N0.out 3
          have u4 := blk_cell N0.out 4
          have u5 := blk_cell N0.out 5
          have u6 := blk_cell N0.out 6
          have q2 := blk_unfrozen N0.out 0
          simp only [List.getElem?_toArray, List.getElem?_cons_zero, List.getElem?_cons_succ] at u0 u1 u2 u3 u4 u5 u6
          clear hb2 hl2 hg2 hcc
          refine hK.out _ _ ?_ (fun hHeld => ?_)
          · exact ⟨by have := blk_cell NK.out 0; simpa using this, by have := blk_cell NK.out 1; simpa using this, by have := blk_cell NK.out 2; simpa using this, by have := blk_cell NK.out 3; simpa using this⟩
          clear hK K
          (try simp only [Act.put, List.setIfInBounds_toArray, List.set_cons_zero, List.set_cons_succ, List.getElem_toArray, List.getElem_cons_zero, List.getElem_cons_succ])
          refine wpAnyH_ready (rs := [8]) (by kernel_rfl) (by simp) ?_
          refine AllReadyH.cons rfl (fun K hK => ?_) ?_
          · go_simp
            refine hK.out _ _ ?_ (fun hHeld => ?_)
            · exact hHeld
            clear hK K
            (try simp only [Act.put, List.setIfInBounds_toArray, List.set_cons_zero, List.set_cons_succ, List.getElem_toArray, List.getElem_cons_zero, List.getElem_cons_succ])
            refine wpAnyH_ready (rs := [9]) (by kernel_rfl) (by simp) ?_
            refine AllReadyH.cons rfl (fun K hK => ?_) ?_
            · go_simp
              refine hK.out _ _ ?_ (fun hHeld => ?_)
              · exact ⟨by rw [World.cell?_setCell_far _ _ _ _ (by show w.heap.size ≠ w.heap.size + 1 + 1; omega)]; have := blk_cell NK.out 0; simpa using this, by rw [World.cell?_setCell_far _ _ _ _ (by show w.heap.size ≠ w.heap.size + 1 + 1; omega)]; have := blk_cell NK.out 1; simpa using this, by rw [World.cell?_setCell_far _ _ _ _ (by show w.heap.size ≠ w.heap.size + 1 + 1; omega)]; have := blk_cell NK.out 2; simpa using this, by rw [World.cell?_setCell_far _ _ _ _ (by show w.heap.size ≠ w.heap.size + 1 + 1; omega)]; have := blk_cell NK.out 3; simpa using this⟩
              clear hK K
              (try simp only [Act.put, List.setIfInBounds_toArray, List.set_cons_zero, List.set_cons_succ, List.getElem_toArray, List.getElem_cons_zero, List.getElem_cons_succ])
              refine wpAnyH_done (by kernel_rfl) ?_ _
              go_wp2_with fail
              clear u0 u1 u2 u3 u4 u5 u6 q2
              obtain ⟨Y, hY⟩ : ∃ Y, Y = w2.setCell ⟨w.heap.size, 0, none⟩ (.slice (some ⟨g, 0, none⟩) nr c') := ⟨_, rfl⟩
              rw [← hY]
              have M1 : Hid (Y.heap[w.heap.size + 1]? = some (.cells #[.slice none 0 0, .slice none 0 0, .int .i64 0, .int .i64 0, .int .i64 0, .int .i64 0, .int .i64 0] 83)) := by unfold Hid; rw [hY]; exact blk_set_other N1.out (by simp) _
              have BY : Hid (Below w.heap.size w Y) := by unfold Hid; rw [hY]; exact B2.out.setCell (Nat.le_refl _) _
              have HYS : Hid (Y.heap.size = w2.heap.size) := by unfold Hid; rw [hY, size_set]
              have FR2 : Hid (Far (w.heap.size + 1) (some ⟨g, 0, none⟩) nr) := Or.inr fun b hb' => by cases hb'; show g ≠ _; omega
              have MY : Hid (Mst Y E B n (some ⟨gb, ob, none⟩) R S (some ⟨g, 0, none⟩) al nr ns (r.set ma A) s) := by
                have h := HM.out.below B2.out
                refine ⟨?_, ?_, by rw [List.length_set]; exact h.hnr, h.hns, h.lr, h.ls, h.Br.set hbd.out.1 hbd.out.2, h.Bs, h.hR, h.hS, h.S1, h.hE, ?_, h.hn⟩
                · rw [hY]; exact HL2.out.set (Or.inr fun b hb' => by cases hb'; show g ≠ _; omega)
                · rw [hY]; refine h.hs.set ?_; have := HM.out.hs.far (G := w.heap.size) (Nat.le_refl _); exact this
                · rw [hY]
                  rcases h.hbl with h0 | ⟨b', o', hbo, h1⟩
                  · exact Or.inl h0
                  · cases hbo
                    exact Or.inr ⟨gb, ob, rfl, fun i hi => rangeAt_set_other (h1 i hi) (by show w.heap.size ≠ gb; omega) _⟩
              clear hY N0 N1 NK HL2 FarR
              have FarR := FR2
              refine (HREC.out (k + 1) (r.set ma A) s (some ⟨g, 0, none⟩) al c' cs _ (by omega) MY.out).mono ?_
              rintro e w9 ⟨ar', al', cr', cs', rfl, hr', hs', nr', ns', hb, hcp⟩
              have HCP : Hid (nr ≤ cr → nr ≤ cr') := Hid.mk (fun _ => hcp HCC.out)
              have HB := Hid.mk (below_then BY.out hb)
              have A1 := Hid.mk (blk_below M1.out hb)
              have FR := Hid.mk (FarR.out.nw nr' (by have := HYS.out; omega))
              have FL := Hid.mk (FarL.out.nw ns' (by have := HYS.out; omega))
              have NR := Hid.mk (Nw.trans (a := ar) (Or.inr fun b hb' => by cases hb'; show _ ≤ g; omega) nr' BY.out.size)
              have NL := Hid.mk (Nw.trans (Nw.refl w _) ns' BY.out.size)
              have HR := Hid.mk hr'
              have HL := Hid.mk hs'
              have LN := Hid.mk (exec_len (E := E) (B := B) (n := n) f (k + 1) (r.set ma A) s)
              clear hr' hs' nr' ns' hb hcp
              generalize exec E B n f (k + 1) (r.set ma A) s = rr at *
              have x0 := blk_cell A1.out 0
              have y0 := blk_unfrozen A1.out 0
              have x1 := blk_cell A1.out 1
              have y1 := blk_unfrozen A1.out 1
              have x2 := blk_cell A1.out 2
              have y2 := blk_unfrozen A1.out 2
              have x3 := blk_cell A1.out 3
              have y3 := blk_unfrozen A1.out 3
              have x4 := blk_cell A1.out 4
              have y4 := blk_unfrozen A1.out 4
              have x5 := blk_cell A1.out 5
              have y5 := blk_unfrozen A1.out 5
              have x6 := blk_cell A1.out 6
              have y6 := blk_unfrozen A1.out 6
              simp only [List.getElem?_toArray, List.getElem?_cons_zero, List.getElem?_cons_succ] at x0 x1 x2 x3 x4 x5 x6
              go_wp2
              refine bodyPost_ret (v := .agg #[.slice ar' nr cr', .slice al' ns cs', .int .i64 E.tags, .int .i64 E.skills, .int .i64 E.q, .int .i64 (E.nQ : Int), .int .i64 rr.2.2]) (by simp [results, Tryz.results42, go_sem, x0, x1, x2, x3, x4, x5, x6]) rfl ?_
              clear x0 x1 x2 x3 x4 x5 x6 y0 y1 y2 y3 y4 y5 y6
              exact ⟨ar', al', cr', cs', rfl, seven HR.out (by rw [LN.out.1, List.length_set, ← HM.out.hnr]; exact FR.out), seven HL.out (by rw [LN.out.2, ← HM.out.hns]; exact FL.out), NR.out, NL.out, (((((((HB.out.setCell (p := ⟨w.heap.size + 1, 0, none⟩) (Nat.le_succ _) _).setCell (p := ⟨w.heap.size + 1, 1, none⟩) (Nat.le_succ _) _).setCell (p := ⟨w.heap.size + 1, 2, none⟩) (Nat.le_succ _) _).setCell (p := ⟨w.heap.size + 1, 3, none⟩) (Nat.le_succ _) _).setCell (p := ⟨w.heap.size + 1, 4, none⟩) (Nat.le_succ _) _).setCell (p := ⟨w.heap.size + 1, 5, none⟩) (Nat.le_succ _) _).setCell (p := ⟨w.heap.size + 1, 6, none⟩) (Nat.le_succ _) _), HCP.out⟩
            exact AllReadyH.nil
          exact AllReadyH.nil
        exact AllReadyH.nil
      exact AllReadyH.nil
    refine AllReadyH.cons rfl (fun K hK => ?_) ?_
    · go_simp
      refine (insVal E ar al cr cs nr ns r s (-1) _ HRd.out HLd.out HM.out.hnr HM.out.hns HM.out.lr HM.out.ls HM.out.Br HM.out.Bs HM.out.hE R S k n HM.out.hR HM.out.hS HM.out.S1 p (ma : Int) b c HOK.out HP.out).mono ?_
      rintro e w1 ⟨rfl, hb1⟩
      rw [← HA.out]
      have B1 := Hid.mk (below_then HBW.out.drew hb1)
      have L0 := Hid.mk (blk_below (w := W.drew) K0.out hb1)
      have L1 := Hid.mk (blk_below (w := W.drew) K1.out hb1)
      have KK := Hid.mk (blk_below (w := W.drew) K2.out hb1)
      have HR1 := Hid.mk (HRd.out.below hb1)
      have hw1 : Hid (w.heap.size + 3 ≤ w1.heap.size) := by unfold Hid; have := hb1.size; have e : W.drew.heap.size = w.heap.size + 3 := HSZ.out; omega
      have v0 := blk_cell L0.out 0
      simp only [List.getElem?_toArray, List.getElem?_cons_zero, List.getElem?_cons_succ] at v0
      clear hb1
      refine hK.out _ _ ?_ (fun hHeld => ?_)
      · exact ⟨by have := blk_cell KK.out 0; simpa using this, by have := blk_cell KK.out 1; simpa using this, by have := blk_cell KK.out 2; simpa using this, by have := blk_cell KK.out 3; simpa using this⟩
      clear hK K
      (try simp only [Act.put, List.setIfInBounds_toArray, List.set_cons_zero, List.set_cons_succ, List.getElem_toArray, List.getElem_cons_zero, List.getElem_cons_succ])
      refine wpAnyH_ready (rs := [1]) (by kernel_rfl) (by simp) ?_
      refine AllReadyH.cons rfl (fun K hK => ?_) ?_
      · go_simp
        refine hK.out _ _ ?_ (fun hHeld => ?_)
        · exact hHeld
        clear hK K
        (try simp only [Act.put, List.setIfInBounds_toArray, List.set_cons_zero, List.set_cons_succ, List.getElem_toArray, List.getElem_cons_zero, List.getElem_cons_succ])
        refine wpAnyH_ready (rs := [7]) (by kernel_rfl) (by simp) ?_
        refine AllReadyH.cons rfl (fun K hK => ?_) ?_
        · go_simp
          refine (setS ar nr cr r ma A _ HM.out.hnr HR1.out a1 (by omega)).mono ?_
          rintro e w2 ⟨g, c', rfl, hl2, hb2, hg2, hcc⟩
          have HCC := Hid.mk hcc
          have B2 := Hid.mk (below_then B1.out hb2)
          have N0 := Hid.mk (blk_below L0.out hb2)
          have N1 := Hid.mk (blk_below L1.out hb2)
          have NK := Hid.mk (blk_below KK.out hb2)
          have HL2 := Hid.mk hl2
          have hg3 : w.heap.size + 3 ≤ g := by have := hw1.out; omega
          have hw2 : w.heap.size + 3 ≤ w2.heap.size := by have := hw1.out; have := hb2.size; omega
          have u0 := blk_cell N0.out 0
          have u1 := blk_cell N0.out 1
          have u2 := blk_cell N0.out 2
          have u3 := blk_cell N0.out 3
          have u4 := blk_cell N0.out 4
          have u5 := blk_cell N0.out 5
          have u6 := blk_cell N0.out 6
          have q2 := blk_unfrozen N0.out 0
          simp only [List.getElem?_toArray, List.getElem?_cons_zero, List.getElem?_cons_succ] at u0 u1 u2 u3 u4 u5 u6
          clear hb2 hl2 hg2 hcc
          refine hK.out _ _ ?_ (fun hHeld => ?_)
          · exact ⟨by have := blk_cell NK.out 0; simpa using this, by have := blk_cell NK.out 1; simpa using this, by have := blk_cell NK.out 2; simpa using this, by have := blk_cell NK.out 3; simpa using this⟩
          clear hK K
          (try simp only [Act.put, List.setIfInBounds_toArray, List.set_cons_zero, List.set_cons_succ, List.getElem_toArray, List.getElem_cons_zero, List.getElem_cons_succ])
          refine wpAnyH_ready (rs := [8]) (by kernel_rfl) (by simp) ?_
          refine AllReadyH.cons rfl (fun K hK => ?_) ?_
          · go_simp
            refine hK.out _ _ ?_ (fun hHeld => ?_)
            · exact hHeld
            clear hK K
            (try simp only [Act.put, List.setIfInBounds_toArray, List.set_cons_zero, List.set_cons_succ, List.getElem_toArray, List.getElem_cons_zero, List.getElem_cons_succ])
            refine wpAnyH_ready (rs := [9]) (by kernel_rfl) (by simp) ?_
            refine AllReadyH.cons rfl (fun K hK => ?_) ?_
            · go_simp
              refine hK.out _ _ ?_ (fun hHeld => ?_)
              · exact ⟨by rw [World.cell?_setCell_far _ _ _ _ (by show w.heap.size ≠ w.heap.size + 1 + 1; omega)]; have := blk_cell NK.out 0; simpa using this, by rw [World.cell?_setCell_far _ _ _ _ (by show w.heap.size ≠ w.heap.size + 1 + 1; omega)]; have := blk_cell NK.out 1; simpa using this, by rw [World.cell?_setCell_far _ _ _ _ (by show w.heap.size ≠ w.heap.size + 1 + 1; omega)]; have := blk_cell NK.out 2; simpa using this, by rw [World.cell?_setCell_far _ _ _ _ (by show w.heap.size ≠ w.heap.size + 1 + 1; omega)]; have := blk_cell NK.out 3; simpa using this⟩
              clear hK K
              (try simp only [Act.put, List.setIfInBounds_toArray, List.set_cons_zero, List.set_cons_succ, List.getElem_toArray, List.getElem_cons_zero, List.getElem_cons_succ])
              refine wpAnyH_done (by kernel_rfl) ?_ _
              go_wp2_with fail
              clear u0 u1 u2 u3 u4 u5 u6 q2
              obtain ⟨Y, hY⟩ : ∃ Y, Y = w2.setCell ⟨w.heap.size, 0, none⟩ (.slice (some ⟨g, 0, none⟩) nr c') := ⟨_, rfl⟩
              rw [← hY]
              have M1 : Hid (Y.heap[w.heap.size + 1]? = some (.cells #[.slice none 0 0, .slice none 0 0, .int .i64 0, .int .i64 0, .int .i64 0, .int .i64 0, .int .i64 0] 83)) := by unfold Hid; rw [hY]; exact blk_set_other N1.out (by simp) _
              have BY : Hid (Below w.heap.size w Y) := by unfold Hid; rw [hY]; exact B2.out.setCell (Nat.le_refl _) _
              have HYS : Hid (Y.heap.size = w2.heap.size) := by unfold Hid; rw [hY, size_set]
              have FR2 : Hid (Far (w.heap.size + 1) (some ⟨g, 0, none⟩) nr) := Or.inr fun b hb' => by cases hb'; show g ≠ _; omega
              have MY : Hid (Mst Y E B n (some ⟨gb, ob, none⟩) R S (some ⟨g, 0, none⟩) al nr ns (r.set ma A) s) := by
                have h := HM.out.below B2.out
                refine ⟨?_, ?_, by rw [List.length_set]; exact h.hnr, h.hns, h.lr, h.ls, h.Br.set hbd.out.1 hbd.out.2, h.Bs, h.hR, h.hS, h.S1, h.hE, ?_, h.hn⟩
                · rw [hY]; exact HL2.out.set (Or.inr fun b hb' => by cases hb'; show g ≠ _; omega)
                · rw [hY]; refine h.hs.set ?_; have := HM.out.hs.far (G := w.heap.size) (Nat.le_refl _); exact this
                · rw [hY]
                  rcases h.hbl with h0 | ⟨b', o', hbo, h1⟩
                  · exact Or.inl h0
                  · cases hbo
                    exact Or.inr ⟨gb, ob, rfl, fun i hi => rangeAt_set_other (h1 i hi) (by show w.heap.size ≠ gb; omega) _⟩
              clear hY N0 N1 NK HL2 FarR
              have FarR := FR2
              refine (HREC.out (k + 1) (r.set ma A) s (some ⟨g, 0, none⟩) al c' cs _ (by omega) MY.out).mono ?_
              rintro e w9 ⟨ar', al', cr', cs', rfl, hr', hs', nr', ns', hb, hcp⟩
              have HCP : Hid (nr ≤ cr → nr ≤ cr') := Hid.mk (fun _ => hcp HCC.out)
              have HB := Hid.mk (below_then BY.out hb)
              have A1 := Hid.mk (blk_below M1.out hb)
              have FR := Hid.mk (FarR.out.nw nr' (by have := HYS.out; omega))
              have FL := Hid.mk (FarL.out.nw ns' (by have := HYS.out; omega))
              have NR := Hid.mk (Nw.trans (a := ar) (Or.inr fun b hb' => by cases hb'; show _ ≤ g; omega) nr' BY.out.size)
              have NL := Hid.mk (Nw.trans (Nw.refl w _) ns' BY.out.size)
              have HR := Hid.mk hr'
              have HL := Hid.mk hs'
              have LN := Hid.mk (exec_len (E := E) (B := B) (n := n) f (k + 1) (r.set ma A) s)
              clear hr' hs' nr' ns' hb hcp
              generalize exec E B n f (k + 1) (r.set ma A) s = rr at *
              have x0 := blk_cell A1.out 0
              have y0 := blk_unfrozen A1.out 0
              have x1 := blk_cell A1.out 1
              have y1 := blk_unfrozen A1.out 1
              have x2 := blk_cell A1.out 2
              have y2 := blk_unfrozen A1.out 2
              have x3 := blk_cell A1.out 3
              have y3 := blk_unfrozen A1.out 3
              have x4 := blk_cell A1.out 4
              have y4 := blk_unfrozen A1.out 4
              have x5 := blk_cell A1.out 5
              have y5 := blk_unfrozen A1.out 5
              have x6 := blk_cell A1.out 6
              have y6 := blk_unfrozen A1.out 6
              simp only [List.getElem?_toArray, List.getElem?_cons_zero, List.getElem?_cons_succ] at x0 x1 x2 x3 x4 x5 x6
              go_wp2
              refine bodyPost_ret (v := .agg #[.slice ar' nr cr', .slice al' ns cs', .int .i64 E.tags, .int .i64 E.skills, .int .i64 E.q, .int .i64 (E.nQ : Int), .int .i64 rr.2.2]) (by simp [results, Tryz.results42, go_sem, x0, x1, x2, x3, x4, x5, x6]) rfl ?_
              clear x0 x1 x2 x3 x4 x5 x6 y0 y1 y2 y3 y4 y5 y6
              exact ⟨ar', al', cr', cs', rfl, seven HR.out (by rw [LN.out.1, List.length_set, ← HM.out.hnr]; exact FR.out), seven HL.out (by rw [LN.out.2, ← HM.out.hns]; exact FL.out), NR.out, NL.out, (((((((HB.out.setCell (p := ⟨w.heap.size + 1, 0, none⟩) (Nat.le_succ _) _).setCell (p := ⟨w.heap.size + 1, 1, none⟩) (Nat.le_succ _) _).setCell (p := ⟨w.heap.size + 1, 2, none⟩) (Nat.le_succ _) _).setCell (p := ⟨w.heap.size + 1, 3, none⟩) (Nat.le_succ _) _).setCell (p := ⟨w.heap.size + 1, 4, none⟩) (Nat.le_succ _) _).setCell (p := ⟨w.heap.size + 1, 5, none⟩) (Nat.le_succ _) _).setCell (p := ⟨w.heap.size + 1, 6, none⟩) (Nat.le_succ _) _), HCP.out⟩
            exact AllReadyH.nil
          exact AllReadyH.nil
        exact AllReadyH.nil
      exact AllReadyH.nil
    exact AllReadyH.nil
  exact AllReadyH.nil

end Go.Proofs.YtgooegcmgejfpaaGreatDoor.Mac
