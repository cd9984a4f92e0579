import Derived.Test.YtgooegcmgejfpaaGreatDoorGr28
import Derived.Deep.DrawnRows
import Derived.StillTailTactics
import Derived.Deep.CutRange
import Derived.Deep.Cut
import Derived.Deep.DeepCutAuto
namespace Go.Proofs.YtgooegcmgejfpaaGreatDoor.Mac
open Go Go.RowKit Go.Proofs.YtgooegcmgejfpaaGreatDoor.Mem Go.Proofs.YtgooegcmgejfpaaGreatDoor.Travel
open Go.Proofs.YtgooegcmgejfpaaGreatDoor.Valid (inB nodes nodes_bd validB)
open Go.Proofs.YtgooegcmgejfpaaGreatDoor.StV (stopB)
open Go.Proofs.YtgooegcmgejfpaaGreatDoor.Arith (cl cl_bd sadd smul)
set_option linter.unusedVariables false
set_option linter.unusedSimpArgs false
attribute [local go_sem ↓] Go.wp_at_zero Go.wp_at_succ

/-- The state of a frame, its lists left out. -/
def stF (f : Fr) : St := ⟨f.p, f.u, f.d, f.t, f.s, f.l, 0, 0, 0, fun _ => 0, fun _ => 0, fun _ => 0⟩
def nxT (I : In) (f : Fr) (n : Int) : Int := max (plOf I n).o (sadd (sadd f.t (plOf I f.d).h) (legV I f.d n))
def nxS (I : In) (f : Fr) (n : Int) : Int := sadd f.s (legV I f.d n)
def nxL (I : In) (f : Fr) (n : Int) : Int := sadd f.l ((pickOf I n - dropOf I n) * sizeOf I n)
theorem mblk_of {B : Nat} {w0 w : World} (h : Below B w0 w) (o : Obj) : (w.alloc o).heap[w.heap.size]? = some o := blk_new w o
theorem mblk_drew {w : World} {V : Nat} {o : Obj} (h : w.heap[V]? = some o) : w.drew.heap[V]? = some o := h
theorem mcell_srow {w : World} {g b o : Nat} {v : Value} {cs : Array Value} (h : w.cell? ⟨b, o, none⟩ = some v) (hne : b ≠ g) : (w.setRow g cs).cell? ⟨b, o, none⟩ = some v := (cell_setRow_other w g cs ⟨b, o, none⟩ hne).trans h
theorem mcell_set {w : World} {g b i o : Nat} {v x : Value} (h : w.cell? ⟨b, o, none⟩ = some v) (hne : g ≠ b) : (w.setCell ⟨g, i, none⟩ x).cell? ⟨b, o, none⟩ = some v := by
  rw [World.cell?_setCell_far _ _ _ _ hne]; exact h
set_option maxHeartbeats 8000000 in
set_option maxRecDepth 100000 in
theorem moveToI (B F : Nat) (f : Fr) (r s : List Int) (mp : Mp) (v : Nat) (n : Int) (w : World) (h : Ok w F f r s) (hM : w.heap[f.M]? = some (.cells (mcC mp) 153)) (hI : InAt w mp.b1 mp.b2 mp.b3 mp.I) (hval : validB mp.I = true) (hmv : mp.v = (v : Int)) (hv : v < mp.I.nV) (d0 : 0 ≤ f.d) (d1 : f.d ≤ nodes mp.I - 1) (n0 : 0 ≤ n) (n1 : n ≤ nodes mp.I - 1) (p0 : 0 ≤ f.p) (p1 : f.p ≤ 100000) (hB : B ≤ w.heap.size) (bF : B ≤ F) (bR : B ≤ f.gR) (h13 : 13 ≤ f.nr) (mF : f.M ≠ F) (mR : f.M ≠ f.gR) (mS : f.M ≠ f.gS) :
    Calls Tryz.prog 124 #[.pointer (some ⟨F, 0, none⟩), .int .i64 n] w fun e w' => (∃ v, e = .returned v) ∧ Ok w' F { f with d := n, p := f.p + 1, t := nxT mp.I f n, s := nxS mp.I f n, l := nxL mp.I f n } (over r (nextL mp.I v (stF f) n)) s ∧ Oth B F f.gR f.gS w w' := by
  obtain ⟨h1, h2, h3⟩ := lens_bd (validB_parts hval).1
  have H := Hid.mk h
  have HM := Hid.mk hM
  have HI := Hid.mk hI
  have HV := Hid.mk hval
  have HN := Hid.mk (And.intro (And.intro n0 n1) (And.intro d0 d1))
  have hFs : Hid (F < w.heap.size) := blk_lt h.hF
  have hMs : Hid (f.M < w.heap.size) := blk_lt hM
  have y9 := blk_cell h.hF 9
  have y2 := blk_cell h.hF 2
  have m0 := blk_cell hM 0
  have m1 := blk_cell hM 1
  have m2 := blk_cell hM 2
  have m3 := blk_cell hM 3
  simp only [frC, mcC, List.getElem?_toArray, List.getElem?_cons_zero, List.getElem?_cons_succ] at y9 y2 m0 m1 m2 m3
  rw [hmv] at m3
  clear h hM hI hval n0 n1 d0 d1
  go_enter Tryz.func124, Tryz.ntmps124
  go_upto_region 0 with fail
  have HS0 := Hid.mk (And.intro y9 (And.intro y2 (And.intro m0 (And.intro m1 (And.intro m2 m3)))))
  clear y9 y2 m0 m1 m2 m3
  go_cut [4] (fun a wx => ∃ Kb : Nat, a = .pointer (some ⟨Kb, 0, none⟩) ∧ Hid (w.heap.size ≤ Kb) ∧ Hid (Below w.heap.size w wx) ∧ Hid (wx.heap[Kb]? = some (.cells ([.int .i64 0, .int .i64 0, .int .i64 0, .int .i64 0, .int .i64 0, .int .i64 (sizeOf mp.I f.d), .int .i64 (plOf mp.I f.d).o, .int .i64 (plOf mp.I f.d).c, .int .i64 (plOf mp.I f.d).h, .int .i64 (mp.I.V v).a, .int .i64 0, .int .i64 (pickOf mp.I f.d), .int .i64 (dropOf mp.I f.d)]).toArray 156)))
  case first =>
    have HB : Hid (Below w.heap.size w w.drew) := (Below.refl _ _).drew
    refine wp_region_held_drew (S := (fun w' => w'.cell? ⟨F, 9, none⟩ = some (.pointer (some ⟨f.M, 0, none⟩)) ∧ w'.cell? ⟨F, 2, none⟩ = some (.int .i64 f.d) ∧ w'.cell? ⟨f.M, 0, none⟩ = some (.slice mp.b1 mp.I.nV mp.d1) ∧ w'.cell? ⟨f.M, 1, none⟩ = some (.slice mp.b2 mp.I.nQ mp.d2) ∧ w'.cell? ⟨f.M, 2, none⟩ = some (.slice mp.b3 mp.I.nR mp.d3) ∧ w'.cell? ⟨f.M, 3, none⟩ = some (.int .i64 (v : Int)))) (by kernel_rfl) ?_ (fun hHeld => ?_)
    · exact HS0.out
    refine wpAnyH_take (i := 0) (v := ?_) rfl (by kernel_rfl) (by kernel_rfl) (by kernel_rfl) (fun _ _ _ h => h) (Or.inl ⟨by rfl, ?_⟩) (by assumption) ?_
    rotate_left
    · intro w hSw; (try dsimp only at hSw); go_simp; (try with_reducible rfl)
    rotate_left
    simp only [Act.put, List.setIfInBounds_toArray, List.set_cons_zero, List.set_cons_succ, List.getElem_toArray, List.getElem_cons_zero, List.getElem_cons_succ]
    refine wpAnyH_take (i := 1) (v := ?_) rfl (by kernel_rfl) (by kernel_rfl) (by kernel_rfl) (fun _ _ _ h => h) (Or.inl ⟨by rfl, ?_⟩) (by assumption) ?_
    rotate_left
    · intro w hSw; (try dsimp only at hSw); go_simp; (try with_reducible rfl)
    rotate_left
    simp only [Act.put, List.setIfInBounds_toArray, List.set_cons_zero, List.set_cons_succ, List.getElem_toArray, List.getElem_cons_zero, List.getElem_cons_succ]
    refine wpAnyH_take (i := 2) (v := ?_) rfl (by kernel_rfl) (by kernel_rfl) (by kernel_rfl) (fun _ _ _ h => h) (Or.inl ⟨by rfl, ?_⟩) (by assumption) ?_
    rotate_left
    · intro w hSw; (try dsimp only at hSw); go_simp; (try with_reducible rfl)
    rotate_left
    simp only [Act.put, List.setIfInBounds_toArray, List.set_cons_zero, List.set_cons_succ, List.getElem_toArray, List.getElem_cons_zero, List.getElem_cons_succ]
    refine wpAnyH_take (i := 3) (v := ?_) rfl (by kernel_rfl) (by kernel_rfl) (by kernel_rfl) (fun _ _ _ h => h) (Or.inl ⟨by rfl, ?_⟩) (by assumption) ?_
    rotate_left
    · intro w hSw; (try dsimp only at hSw); go_simp; (try with_reducible rfl)
    rotate_left
    simp only [Act.put, List.setIfInBounds_toArray, List.set_cons_zero, List.set_cons_succ, List.getElem_toArray, List.getElem_cons_zero, List.getElem_cons_succ]
    refine wpAnyH_take (i := 4) (v := ?_) rfl (by kernel_rfl) (by kernel_rfl) (by kernel_rfl) (fun _ _ _ h => h) (Or.inl ⟨by rfl, ?_⟩) (by assumption) ?_
    rotate_left
    · intro w hSw; (try dsimp only at hSw); go_simp; (try with_reducible rfl)
    rotate_left
    simp only [Act.put, List.setIfInBounds_toArray, List.set_cons_zero, List.set_cons_succ, List.getElem_toArray, List.getElem_cons_zero, List.getElem_cons_succ]
    refine wpAnyH_take (i := 5) (v := ?_) rfl (by kernel_rfl) (by kernel_rfl) (by kernel_rfl) (fun _ _ _ h => h) (Or.inl ⟨by rfl, ?_⟩) (by assumption) ?_
    rotate_left
    · intro w hSw; (try dsimp only at hSw); go_simp; (try with_reducible rfl)
    rotate_left
    simp only [Act.put, List.setIfInBounds_toArray, List.set_cons_zero, List.set_cons_succ, List.getElem_toArray, List.getElem_cons_zero, List.getElem_cons_succ]
    refine wpAnyH_take (i := 6) (v := ?_) rfl (by kernel_rfl) (by kernel_rfl) (by kernel_rfl) (fun _ _ _ h => h) (Or.inl ⟨by rfl, ?_⟩) (by assumption) ?_
    rotate_left
    · intro w hSw; (try dsimp only at hSw); go_simp; (try with_reducible rfl)
    rotate_left
    simp only [Act.put, List.setIfInBounds_toArray, List.set_cons_zero, List.set_cons_succ, List.getElem_toArray, List.getElem_cons_zero, List.getElem_cons_succ]
    refine wpAnyH_take (i := 7) (v := ?_) rfl (by kernel_rfl) (by kernel_rfl) (by kernel_rfl) (fun _ _ _ h => h) (Or.inl ⟨by rfl, ?_⟩) (by assumption) ?_
    rotate_left
    · intro w hSw; (try dsimp only at hSw); go_simp; (try with_reducible rfl)
    rotate_left
    simp only [Act.put, List.setIfInBounds_toArray, List.set_cons_zero, List.set_cons_succ, List.getElem_toArray, List.getElem_cons_zero, List.getElem_cons_succ]
    refine wpAnyH_take (i := 8) (v := ?_) rfl (by kernel_rfl) (by kernel_rfl) (by kernel_rfl) (fun _ _ _ h => h) (Or.inl ⟨by rfl, ?_⟩) (by assumption) ?_
    rotate_left
    · intro w hSw; (try dsimp only at hSw); go_simp; (try with_reducible rfl)
    rotate_left
    simp only [Act.put, List.setIfInBounds_toArray, List.set_cons_zero, List.set_cons_succ, List.getElem_toArray, List.getElem_cons_zero, List.getElem_cons_succ]
    refine wpAnyH_take (i := 9) (v := ?_) rfl (by kernel_rfl) (by kernel_rfl) (by kernel_rfl) (fun _ _ _ h => h) (Or.inl ⟨by rfl, ?_⟩) (by assumption) ?_
    rotate_left
    · intro w hSw; (try dsimp only at hSw); go_simp; (try with_reducible rfl)
    rotate_left
    simp only [Act.put, List.setIfInBounds_toArray, List.set_cons_zero, List.set_cons_succ, List.getElem_toArray, List.getElem_cons_zero, List.getElem_cons_succ]
    refine wpAnyH_take (i := 10) (v := ?_) rfl (by kernel_rfl) (by kernel_rfl) (by kernel_rfl) (fun _ _ _ h => h) (Or.inl ⟨by rfl, ?_⟩) (by assumption) ?_
    rotate_left
    · intro w hSw; (try dsimp only at hSw); go_simp; (try with_reducible rfl)
    rotate_left
    simp only [Act.put, List.setIfInBounds_toArray, List.set_cons_zero, List.set_cons_succ, List.getElem_toArray, List.getElem_cons_zero, List.getElem_cons_succ]
    refine wpAnyH_take (i := 11) (v := ?_) rfl (by kernel_rfl) (by kernel_rfl) (by kernel_rfl) (fun _ _ _ h => h) (Or.inl ⟨by rfl, ?_⟩) (by assumption) ?_
    rotate_left
    · intro w hSw; (try dsimp only at hSw); go_simp; (try with_reducible rfl)
    rotate_left
    simp only [Act.put, List.setIfInBounds_toArray, List.set_cons_zero, List.set_cons_succ, List.getElem_toArray, List.getElem_cons_zero, List.getElem_cons_succ]
    refine wpAnyH_ready (rs := [12, 13]) (by kernel_rfl) (by simp) ?_
    refine AllReadyH.cons rfl (fun K hK => ?_) ?_
    · go_simp
      refine (ofNodeI mp.b1 mp.b2 mp.b3 mp.d1 mp.d2 mp.d3 mp.I v f.d _ (HI.out.below HB.out) h1 h2 hv HN.out.2.1 HN.out.2.2).mono ?_
      rintro e w2 ⟨rfl, hb⟩
      rw [nodeAt_eq]
      have HB := Hid.mk (below_then HB.out hb)
      (try have AK := Hid.mk (blk_below AK.out hb))
      refine hK.out _ _ ?_ (fun hHeld => ?_)
      · exact ⟨cell_keep hb hHeld.1, cell_keep hb hHeld.2.1, cell_keep hb hHeld.2.2.1, cell_keep hb hHeld.2.2.2.1, cell_keep hb hHeld.2.2.2.2.1, cell_keep hb hHeld.2.2.2.2.2⟩
      clear hK K
      (try simp only [Act.put, List.setIfInBounds_toArray, List.set_cons_zero, List.set_cons_succ, List.getElem_toArray, List.getElem_cons_zero, List.getElem_cons_succ])
      refine wpAnyH_ready (rs := [13]) (by kernel_rfl) (by simp) ?_
      refine AllReadyH.cons rfl (fun K hK => ?_) ?_
      · go_simp
        have AK := Hid.mk (mblk_of HB.out (.cells #[.int .i64 0, .int .i64 0, .int .i64 0, .int .i64 0, .int .i64 0, .int .i64 0, .int .i64 0, .int .i64 0, .int .i64 0, .int .i64 0, .int .i64 0, .int .i64 0, .int .i64 0] 156))
        have hKb := Hid.mk HB.out.size
        have HB := Hid.mk (HB.out.alloc HB.out.size (.cells #[.int .i64 0, .int .i64 0, .int .i64 0, .int .i64 0, .int .i64 0, .int .i64 0, .int .i64 0, .int .i64 0, .int .i64 0, .int .i64 0, .int .i64 0, .int .i64 0, .int .i64 0] 156))
        refine hK.out _ _ ?_ (fun hHeld => ?_)
        · exact ⟨cell_alloc' hHeld.1 _, cell_alloc' hHeld.2.1 _, cell_alloc' hHeld.2.2.1 _, cell_alloc' hHeld.2.2.2.1 _, cell_alloc' hHeld.2.2.2.2.1 _, cell_alloc' hHeld.2.2.2.2.2 _⟩
        clear hK K
        (try simp only [Act.put, List.setIfInBounds_toArray, List.set_cons_zero, List.set_cons_succ, List.getElem_toArray, List.getElem_cons_zero, List.getElem_cons_succ])
        refine wpAnyH_ready (rs := [14]) (by kernel_rfl) (by simp) ?_
        refine AllReadyH.cons rfl (fun K hK => ?_) ?_
        · rw [if_pos (by rfl)]
          refine wp_store_row _ _ _ rfl _ ([.int .i64 0, .int .i64 0, .int .i64 0, .int .i64 0, .int .i64 0, .int .i64 (sizeOf mp.I f.d), .int .i64 (plOf mp.I f.d).o, .int .i64 (plOf mp.I f.d).c, .int .i64 (plOf mp.I f.d).h, .int .i64 (mp.I.V v).a, .int .i64 0, .int .i64 (pickOf mp.I f.d), .int .i64 (dropOf mp.I f.d)]).toArray rfl rfl _ _ AK.out infoAt rfl (by simp [Value.oneCell']) ?_
          refine hK.out _ _ ?_ (fun hHeld => ?_)
          · exact ⟨mcell_srow hHeld.1 (by have q1 := hKb.out; have q2 := hFs.out; have q3 := hMs.out; first | omega | (simp only [World.drew] at q1 ⊢; omega)), mcell_srow hHeld.2.1 (by have q1 := hKb.out; have q2 := hFs.out; have q3 := hMs.out; first | omega | (simp only [World.drew] at q1 ⊢; omega)), mcell_srow hHeld.2.2.1 (by have q1 := hKb.out; have q2 := hFs.out; have q3 := hMs.out; first | omega | (simp only [World.drew] at q1 ⊢; omega)), mcell_srow hHeld.2.2.2.1 (by have q1 := hKb.out; have q2 := hFs.out; have q3 := hMs.out; first | omega | (simp only [World.drew] at q1 ⊢; omega)), mcell_srow hHeld.2.2.2.2.1 (by have q1 := hKb.out; have q2 := hFs.out; have q3 := hMs.out; first | omega | (simp only [World.drew] at q1 ⊢; omega)), mcell_srow hHeld.2.2.2.2.2 (by have q1 := hKb.out; have q2 := hFs.out; have q3 := hMs.out; first | omega | (simp only [World.drew] at q1 ⊢; omega))⟩
          clear hK K
          (try simp only [Act.put, List.setIfInBounds_toArray, List.set_cons_zero, List.set_cons_succ, List.getElem_toArray, List.getElem_cons_zero, List.getElem_cons_succ])
          refine wpAnyH_done (by kernel_rfl) ?_ _
          go_wp2_with fail
          go_meet
          exact ⟨_, rfl, Hid.mk hKb.out, Hid.mk (row_below HB.out hKb.out _), Hid.mk (row_self AK.out _)⟩
        exact AllReadyH.nil
      exact AllReadyH.nil
    refine AllReadyH.cons rfl (fun K hK => ?_) ?_
    · go_simp
      have AK := Hid.mk (mblk_of HB.out (.cells #[.int .i64 0, .int .i64 0, .int .i64 0, .int .i64 0, .int .i64 0, .int .i64 0, .int .i64 0, .int .i64 0, .int .i64 0, .int .i64 0, .int .i64 0, .int .i64 0, .int .i64 0] 156))
      have hKb := Hid.mk HB.out.size
      have HB := Hid.mk (HB.out.alloc HB.out.size (.cells #[.int .i64 0, .int .i64 0, .int .i64 0, .int .i64 0, .int .i64 0, .int .i64 0, .int .i64 0, .int .i64 0, .int .i64 0, .int .i64 0, .int .i64 0, .int .i64 0, .int .i64 0] 156))
      refine hK.out _ _ ?_ (fun hHeld => ?_)
      · exact ⟨cell_alloc' hHeld.1 _, cell_alloc' hHeld.2.1 _, cell_alloc' hHeld.2.2.1 _, cell_alloc' hHeld.2.2.2.1 _, cell_alloc' hHeld.2.2.2.2.1 _, cell_alloc' hHeld.2.2.2.2.2 _⟩
      clear hK K
      (try simp only [Act.put, List.setIfInBounds_toArray, List.set_cons_zero, List.set_cons_succ, List.getElem_toArray, List.getElem_cons_zero, List.getElem_cons_succ])
      refine wpAnyH_ready (rs := [12]) (by kernel_rfl) (by simp) ?_
      refine AllReadyH.cons rfl (fun K hK => ?_) ?_
      · go_simp
        refine (ofNodeI mp.b1 mp.b2 mp.b3 mp.d1 mp.d2 mp.d3 mp.I v f.d _ (HI.out.below HB.out) h1 h2 hv HN.out.2.1 HN.out.2.2).mono ?_
        rintro e w2 ⟨rfl, hb⟩
        rw [nodeAt_eq]
        have HB := Hid.mk (below_then HB.out hb)
        (try have AK := Hid.mk (blk_below AK.out hb))
        refine hK.out _ _ ?_ (fun hHeld => ?_)
        · exact ⟨cell_keep hb hHeld.1, cell_keep hb hHeld.2.1, cell_keep hb hHeld.2.2.1, cell_keep hb hHeld.2.2.2.1, cell_keep hb hHeld.2.2.2.2.1, cell_keep hb hHeld.2.2.2.2.2⟩
        clear hK K
        (try simp only [Act.put, List.setIfInBounds_toArray, List.set_cons_zero, List.set_cons_succ, List.getElem_toArray, List.getElem_cons_zero, List.getElem_cons_succ])
        refine wpAnyH_ready (rs := [14]) (by kernel_rfl) (by simp) ?_
        refine AllReadyH.cons rfl (fun K hK => ?_) ?_
        · rw [if_pos (by rfl)]
          refine wp_store_row _ _ _ rfl _ ([.int .i64 0, .int .i64 0, .int .i64 0, .int .i64 0, .int .i64 0, .int .i64 (sizeOf mp.I f.d), .int .i64 (plOf mp.I f.d).o, .int .i64 (plOf mp.I f.d).c, .int .i64 (plOf mp.I f.d).h, .int .i64 (mp.I.V v).a, .int .i64 0, .int .i64 (pickOf mp.I f.d), .int .i64 (dropOf mp.I f.d)]).toArray rfl rfl _ _ AK.out infoAt rfl (by simp [Value.oneCell']) ?_
          refine hK.out _ _ ?_ (fun hHeld => ?_)
          · exact ⟨mcell_srow hHeld.1 (by have q1 := hKb.out; have q2 := hFs.out; have q3 := hMs.out; first | omega | (simp only [World.drew] at q1 ⊢; omega)), mcell_srow hHeld.2.1 (by have q1 := hKb.out; have q2 := hFs.out; have q3 := hMs.out; first | omega | (simp only [World.drew] at q1 ⊢; omega)), mcell_srow hHeld.2.2.1 (by have q1 := hKb.out; have q2 := hFs.out; have q3 := hMs.out; first | omega | (simp only [World.drew] at q1 ⊢; omega)), mcell_srow hHeld.2.2.2.1 (by have q1 := hKb.out; have q2 := hFs.out; have q3 := hMs.out; first | omega | (simp only [World.drew] at q1 ⊢; omega)), mcell_srow hHeld.2.2.2.2.1 (by have q1 := hKb.out; have q2 := hFs.out; have q3 := hMs.out; first | omega | (simp only [World.drew] at q1 ⊢; omega)), mcell_srow hHeld.2.2.2.2.2 (by have q1 := hKb.out; have q2 := hFs.out; have q3 := hMs.out; first | omega | (simp only [World.drew] at q1 ⊢; omega))⟩
          clear hK K
          (try simp only [Act.put, List.setIfInBounds_toArray, List.set_cons_zero, List.set_cons_succ, List.getElem_toArray, List.getElem_cons_zero, List.getElem_cons_succ])
          refine wpAnyH_done (by kernel_rfl) ?_ _
          go_wp2_with fail
          go_meet
          exact ⟨_, rfl, Hid.mk hKb.out, Hid.mk (row_below HB.out hKb.out _), Hid.mk (row_self AK.out _)⟩
        exact AllReadyH.nil
      exact AllReadyH.nil
    exact AllReadyH.nil
  case rest =>
    obtain ⟨Kb, rfl, hKb, HB, AK⟩ := hcut
    have AF := Hid.mk (blk_below H.out.hF HB.out)
    have y0 := blk_cell AF.out 0
    have y3 := blk_cell AF.out 3
    have y4 := blk_cell AF.out 4
    have y5 := blk_cell AF.out 5
    have b0 := blk_cell AK.out 0
    have b3 := blk_cell AK.out 3
    have b4 := blk_cell AK.out 4
    have b10 := blk_cell AK.out 10
    have z0 := blk_unfrozen AK.out 0
    have z3 := blk_unfrozen AK.out 3
    have z4 := blk_unfrozen AK.out 4
    have z10 := blk_unfrozen AK.out 10
    simp only [frC, mcC, List.getElem?_toArray, List.getElem?_cons_zero, List.getElem?_cons_succ] at y0 y3 y4 y5 b0 b3 b4 b10
    go_upto_region 1 with fail
    have HS1 := Hid.mk (And.intro y0 (And.intro y3 (And.intro y4 y5)))
    have hne : Hid (Kb ≠ F) := by unfold Hid; have := hKb.out; have := hFs.out; omega
    refine wp_region_held_drew (S := (fun w' => w'.cell? ⟨F, 0, none⟩ = some (.int .i64 f.p) ∧ w'.cell? ⟨F, 3, none⟩ = some (.int .i64 f.t) ∧ w'.cell? ⟨F, 4, none⟩ = some (.int .i64 f.s) ∧ w'.cell? ⟨F, 5, none⟩ = some (.int .i64 f.l))) (by kernel_rfl) ?_ (fun hHeld => ?_)
    · exact HS1.out
    refine wpAnyH_take (i := 0) (v := ?_) rfl (by kernel_rfl) (by kernel_rfl) (by kernel_rfl) (fun _ _ _ h => h) (Or.inl ⟨by rfl, ?_⟩) (by assumption) ?_
    rotate_left
    · intro w hSw; (try dsimp only at hSw); go_simp; (try with_reducible rfl)
    rotate_left
    simp only [Act.put, List.setIfInBounds_toArray, List.set_cons_zero, List.set_cons_succ, List.getElem_toArray, List.getElem_cons_zero, List.getElem_cons_succ]
    refine wpAnyH_take (i := 1) (v := ?_) rfl (by kernel_rfl) (by kernel_rfl) (by kernel_rfl) (fun _ _ _ h => h) (Or.inl ⟨by rfl, ?_⟩) (by assumption) ?_
    rotate_left
    · intro w hSw; (try dsimp only at hSw); go_simp; (try with_reducible rfl)
    rotate_left
    simp only [Act.put, List.setIfInBounds_toArray, List.set_cons_zero, List.set_cons_succ, List.getElem_toArray, List.getElem_cons_zero, List.getElem_cons_succ]
    refine wpAnyH_take (i := 2) (v := ?_) rfl (by kernel_rfl) (by kernel_rfl) (by kernel_rfl) (fun _ _ _ h => h) (Or.inl ⟨by rfl, ?_⟩) (by assumption) ?_
    rotate_left
    · intro w hSw; (try dsimp only at hSw); go_simp; (try with_reducible rfl)
    rotate_left
    simp only [Act.put, List.setIfInBounds_toArray, List.set_cons_zero, List.set_cons_succ, List.getElem_toArray, List.getElem_cons_zero, List.getElem_cons_succ]
    refine wpAnyH_take (i := 3) (v := ?_) rfl (by kernel_rfl) (by kernel_rfl) (by kernel_rfl) (fun _ _ _ h => h) (Or.inl ⟨by rfl, ?_⟩) (by assumption) ?_
    rotate_left
    · intro w hSw; (try dsimp only at hSw); go_simp; (try with_reducible rfl)
    rotate_left
    simp only [Act.put, List.setIfInBounds_toArray, List.set_cons_zero, List.set_cons_succ, List.getElem_toArray, List.getElem_cons_zero, List.getElem_cons_succ]
    refine wpAnyH_take (i := 4) (v := ?_) rfl (by kernel_rfl) (by kernel_rfl) (by kernel_rfl) (fun _ _ _ h => h) (Or.inl ⟨by rfl, ?_⟩) (by assumption) ?_
    rotate_left
    · intro w hSw; (try dsimp only at hSw); go_simp; (try with_reducible rfl)
    rotate_left
    simp only [Act.put, List.setIfInBounds_toArray, List.set_cons_zero, List.set_cons_succ, List.getElem_toArray, List.getElem_cons_zero, List.getElem_cons_succ]
    refine wpAnyH_take (i := 20) (v := ?_) rfl (by kernel_rfl) (by kernel_rfl) (by kernel_rfl) (fun _ _ _ h => h) (Or.inl ⟨by rfl, ?_⟩) (by assumption) ?_
    rotate_left
    · intro w hSw; (try dsimp only at hSw); go_simp; (try with_reducible rfl)
    rotate_left
    simp only [Act.put, List.setIfInBounds_toArray, List.set_cons_zero, List.set_cons_succ, List.getElem_toArray, List.getElem_cons_zero, List.getElem_cons_succ]
    refine wpAnyH_take (i := 5) (v := ?_) rfl (by kernel_rfl) (by kernel_rfl) (by kernel_rfl) (fun _ _ _ h => h) (Or.inl ⟨by rfl, ?_⟩) (by assumption) ?_
    rotate_left
    · intro w hSw; (try dsimp only at hSw); go_simp; (try with_reducible rfl)
    rotate_left
    simp only [Act.put, List.setIfInBounds_toArray, List.set_cons_zero, List.set_cons_succ, List.getElem_toArray, List.getElem_cons_zero, List.getElem_cons_succ]
    refine wpAnyH_take (i := 6) (v := ?_) rfl (by kernel_rfl) (by kernel_rfl) (by kernel_rfl) (fun _ _ _ h => h) (Or.inl ⟨by rfl, ?_⟩) (by assumption) ?_
    rotate_left
    · intro w hSw; (try dsimp only at hSw); go_simp; (try with_reducible rfl)
    rotate_left
    simp only [Act.put, List.setIfInBounds_toArray, List.set_cons_zero, List.set_cons_succ, List.getElem_toArray, List.getElem_cons_zero, List.getElem_cons_succ]
    refine wpAnyH_take (i := 7) (v := ?_) rfl (by kernel_rfl) (by kernel_rfl) (by kernel_rfl) (fun _ _ _ h => h) (Or.inl ⟨by rfl, ?_⟩) (by assumption) ?_
    rotate_left
    · intro w hSw; (try dsimp only at hSw); go_simp; (try with_reducible rfl)
    rotate_left
    simp only [Act.put, List.setIfInBounds_toArray, List.set_cons_zero, List.set_cons_succ, List.getElem_toArray, List.getElem_cons_zero, List.getElem_cons_succ]
    refine wpAnyH_take (i := 8) (v := ?_) rfl (by kernel_rfl) (by kernel_rfl) (by kernel_rfl) (fun _ _ _ h => h) (Or.inl ⟨by rfl, ?_⟩) (by assumption) ?_
    rotate_left
    · intro w hSw; (try dsimp only at hSw); go_simp; (try with_reducible rfl)
    rotate_left
    simp only [Act.put, List.setIfInBounds_toArray, List.set_cons_zero, List.set_cons_succ, List.getElem_toArray, List.getElem_cons_zero, List.getElem_cons_succ]
    refine wpAnyH_take (i := 9) (v := ?_) rfl (by kernel_rfl) (by kernel_rfl) (by kernel_rfl) (fun _ _ _ h => h) (Or.inl ⟨by rfl, ?_⟩) (by assumption) ?_
    rotate_left
    · intro w hSw; (try dsimp only at hSw); go_simp; (try with_reducible rfl)
    rotate_left
    simp only [Act.put, List.setIfInBounds_toArray, List.set_cons_zero, List.set_cons_succ, List.getElem_toArray, List.getElem_cons_zero, List.getElem_cons_succ]
    refine wpAnyH_take (i := 10) (v := ?_) rfl (by kernel_rfl) (by kernel_rfl) (by kernel_rfl) (fun _ _ _ h => h) (Or.inl ⟨by rfl, ?_⟩) (by assumption) ?_
    rotate_left
    · intro w hSw; (try dsimp only at hSw); go_simp; (try with_reducible rfl)
    rotate_left
    simp only [Act.put, List.setIfInBounds_toArray, List.set_cons_zero, List.set_cons_succ, List.getElem_toArray, List.getElem_cons_zero, List.getElem_cons_succ]
    refine wpAnyH_take (i := 11) (v := ?_) rfl (by kernel_rfl) (by kernel_rfl) (by kernel_rfl) (fun _ _ _ h => h) (Or.inl ⟨by rfl, ?_⟩) (by assumption) ?_
    rotate_left
    · intro w hSw; (try dsimp only at hSw); go_simp; (try with_reducible rfl)
    rotate_left
    simp only [Act.put, List.setIfInBounds_toArray, List.set_cons_zero, List.set_cons_succ, List.getElem_toArray, List.getElem_cons_zero, List.getElem_cons_succ]
    refine wpAnyH_take (i := 12) (v := ?_) rfl (by kernel_rfl) (by kernel_rfl) (by kernel_rfl) (fun _ _ _ h => h) (Or.inl ⟨by rfl, ?_⟩) (by assumption) ?_
    rotate_left
    · intro w hSw; (try dsimp only at hSw); go_simp; (try with_reducible rfl)
    rotate_left
    simp only [Act.put, List.setIfInBounds_toArray, List.set_cons_zero, List.set_cons_succ, List.getElem_toArray, List.getElem_cons_zero, List.getElem_cons_succ]
    refine wpAnyH_take (i := 13) (v := ?_) rfl (by kernel_rfl) (by kernel_rfl) (by kernel_rfl) (fun _ _ _ h => h) (Or.inl ⟨by rfl, ?_⟩) (by assumption) ?_
    rotate_left
    · intro w hSw; (try dsimp only at hSw); go_simp; (try with_reducible rfl)
    rotate_left
    simp only [Act.put, List.setIfInBounds_toArray, List.set_cons_zero, List.set_cons_succ, List.getElem_toArray, List.getElem_cons_zero, List.getElem_cons_succ]
    refine wpAnyH_take (i := 14) (v := ?_) rfl (by kernel_rfl) (by kernel_rfl) (by kernel_rfl) (fun _ _ _ h => h) (Or.inl ⟨by rfl, ?_⟩) (by assumption) ?_
    rotate_left
    · intro w hSw; (try dsimp only at hSw); go_simp; (try with_reducible rfl)
    rotate_left
    simp only [Act.put, List.setIfInBounds_toArray, List.set_cons_zero, List.set_cons_succ, List.getElem_toArray, List.getElem_cons_zero, List.getElem_cons_succ]
    refine wpAnyH_take (i := 15) (v := ?_) rfl (by kernel_rfl) (by kernel_rfl) (by kernel_rfl) (fun _ _ _ h => h) (Or.inl ⟨by rfl, ?_⟩) (by assumption) ?_
    rotate_left
    · intro w hSw; (try dsimp only at hSw); go_simp; (try with_reducible rfl)
    rotate_left
    simp only [Act.put, List.setIfInBounds_toArray, List.set_cons_zero, List.set_cons_succ, List.getElem_toArray, List.getElem_cons_zero, List.getElem_cons_succ]
    refine wpAnyH_take (i := 16) (v := ?_) rfl (by kernel_rfl) (by kernel_rfl) (by kernel_rfl) (fun _ _ _ h => h) (Or.inl ⟨by rfl, ?_⟩) (by assumption) ?_
    rotate_left
    · intro w hSw; (try dsimp only at hSw); go_simp; (try with_reducible rfl)
    rotate_left
    simp only [Act.put, List.setIfInBounds_toArray, List.set_cons_zero, List.set_cons_succ, List.getElem_toArray, List.getElem_cons_zero, List.getElem_cons_succ]
    refine wpAnyH_take (i := 17) (v := ?_) rfl (by kernel_rfl) (by kernel_rfl) (by kernel_rfl) (fun _ _ _ h => h) (Or.inl ⟨by rfl, ?_⟩) (by assumption) ?_
    rotate_left
    · intro w hSw; (try dsimp only at hSw); go_simp; (try with_reducible rfl)
    rotate_left
    simp only [Act.put, List.setIfInBounds_toArray, List.set_cons_zero, List.set_cons_succ, List.getElem_toArray, List.getElem_cons_zero, List.getElem_cons_succ]
    refine wpAnyH_take (i := 18) (v := ?_) rfl (by kernel_rfl) (by kernel_rfl) (by kernel_rfl) (fun _ _ _ h => h) (Or.inl ⟨by rfl, ?_⟩) (by assumption) ?_
    rotate_left
    · intro w hSw; (try dsimp only at hSw); go_simp; (try with_reducible rfl)
    rotate_left
    simp only [Act.put, List.setIfInBounds_toArray, List.set_cons_zero, List.set_cons_succ, List.getElem_toArray, List.getElem_cons_zero, List.getElem_cons_succ]
    refine wpAnyH_take (i := 19) (v := ?_) rfl (by kernel_rfl) (by kernel_rfl) (by kernel_rfl) (fun _ _ _ h => h) (Or.inl ⟨by rfl, ?_⟩) (by assumption) ?_
    rotate_left
    · intro w hSw; (try dsimp only at hSw); go_simp; (try with_reducible rfl)
    rotate_left
    simp only [Act.put, List.setIfInBounds_toArray, List.set_cons_zero, List.set_cons_succ, List.getElem_toArray, List.getElem_cons_zero, List.getElem_cons_succ]
    refine wpAnyH_ready (rs := [21]) (by kernel_rfl) (by simp) ?_
    refine AllReadyH.cons rfl (fun K hK => ?_) ?_
    · go_simp
      refine hK.out _ _ ?_ (fun hHeld => ?_)
      · exact ⟨mcell_set hHeld.1 hne.out, mcell_set hHeld.2.1 hne.out, mcell_set hHeld.2.2.1 hne.out, mcell_set hHeld.2.2.2 hne.out⟩
      clear hK K
      (try simp only [Act.put, List.setIfInBounds_toArray, List.set_cons_zero, List.set_cons_succ, List.getElem_toArray, List.getElem_cons_zero, List.getElem_cons_succ])
      refine wpAnyH_take (i := 22) (v := ?_) rfl (by kernel_rfl) (by kernel_rfl) (by kernel_rfl) (fun _ _ _ h => h) (Or.inl ⟨by rfl, ?_⟩) (by assumption) ?_
      rotate_left
      · intro w hSw; (try dsimp only at hSw); go_simp; (try with_reducible rfl)
      rotate_left
      simp only [Act.put, List.setIfInBounds_toArray, List.set_cons_zero, List.set_cons_succ, List.getElem_toArray, List.getElem_cons_zero, List.getElem_cons_succ]
      refine wpAnyH_ready (rs := [23]) (by kernel_rfl) (by simp) ?_
      refine AllReadyH.cons rfl (fun K hK => ?_) ?_
      · go_simp
        refine hK.out _ _ ?_ (fun hHeld => ?_)
        · exact ⟨mcell_set hHeld.1 hne.out, mcell_set hHeld.2.1 hne.out, mcell_set hHeld.2.2.1 hne.out, mcell_set hHeld.2.2.2 hne.out⟩
        clear hK K
        (try simp only [Act.put, List.setIfInBounds_toArray, List.set_cons_zero, List.set_cons_succ, List.getElem_toArray, List.getElem_cons_zero, List.getElem_cons_succ])
        refine wpAnyH_take (i := 24) (v := ?_) rfl (by kernel_rfl) (by kernel_rfl) (by kernel_rfl) (fun _ _ _ h => h) (Or.inl ⟨by rfl, ?_⟩) (by assumption) ?_
        rotate_left
        · intro w hSw; (try dsimp only at hSw); go_simp; (try with_reducible rfl)
        rotate_left
        simp only [Act.put, List.setIfInBounds_toArray, List.set_cons_zero, List.set_cons_succ, List.getElem_toArray, List.getElem_cons_zero, List.getElem_cons_succ]
        refine wpAnyH_ready (rs := [25]) (by kernel_rfl) (by simp) ?_
        refine AllReadyH.cons rfl (fun K hK => ?_) ?_
        · go_simp
          refine hK.out _ _ ?_ (fun hHeld => ?_)
          · exact ⟨mcell_set hHeld.1 hne.out, mcell_set hHeld.2.1 hne.out, mcell_set hHeld.2.2.1 hne.out, mcell_set hHeld.2.2.2 hne.out⟩
          clear hK K
          (try simp only [Act.put, List.setIfInBounds_toArray, List.set_cons_zero, List.set_cons_succ, List.getElem_toArray, List.getElem_cons_zero, List.getElem_cons_succ])
          refine wpAnyH_take (i := 26) (v := ?_) rfl (by kernel_rfl) (by kernel_rfl) (by kernel_rfl) (fun _ _ _ h => h) (Or.inl ⟨by rfl, ?_⟩) (by assumption) ?_
          rotate_left
          · intro w hSw; (try dsimp only at hSw); go_simp; (try with_reducible rfl)
          rotate_left
          simp only [Act.put, List.setIfInBounds_toArray, List.set_cons_zero, List.set_cons_succ, List.getElem_toArray, List.getElem_cons_zero, List.getElem_cons_succ]
          refine wpAnyH_ready (rs := [27]) (by kernel_rfl) (by simp) ?_
          refine AllReadyH.cons rfl (fun K hK => ?_) ?_
          · go_simp
            refine hK.out _ _ ?_ (fun hHeld => ?_)
            · exact ⟨mcell_set hHeld.1 hne.out, mcell_set hHeld.2.1 hne.out, mcell_set hHeld.2.2.1 hne.out, mcell_set hHeld.2.2.2 hne.out⟩
            clear hK K
            (try simp only [Act.put, List.setIfInBounds_toArray, List.set_cons_zero, List.set_cons_succ, List.getElem_toArray, List.getElem_cons_zero, List.getElem_cons_succ])
            refine wpAnyH_done (by kernel_rfl) ?_ _
            go_upto_region 2 with fail
            obtain ⟨X, hX⟩ : ∃ X, X = ((((wc.setCell ⟨Kb, 10, none⟩ (.int .i64 f.p)).setCell ⟨Kb, 0, none⟩ (.int .i64 f.t)).setCell ⟨Kb, 3, none⟩ (.int .i64 f.s)).setCell ⟨Kb, 4, none⟩ (.int .i64 f.l)).drew := ⟨_, rfl⟩
            rw [← hX]
            have AX : Hid (X.heap[Kb]? = some (.cells ([.int .i64 f.t, .int .i64 0, .int .i64 0, .int .i64 f.s, .int .i64 f.l, .int .i64 (sizeOf mp.I f.d), .int .i64 (plOf mp.I f.d).o, .int .i64 (plOf mp.I f.d).c, .int .i64 (plOf mp.I f.d).h, .int .i64 (mp.I.V v).a, .int .i64 f.p, .int .i64 (pickOf mp.I f.d), .int .i64 (dropOf mp.I f.d)]).toArray 156)) := by
              have := mblk_drew (blk_set (blk_set (blk_set (blk_set AK.out 10 (.int .i64 f.p)) 0 (.int .i64 f.t)) 3 (.int .i64 f.s)) 4 (.int .i64 f.l))
              rw [← hX] at this
              simp only [List.setIfInBounds_toArray, List.set_cons_zero, List.set_cons_succ] at this
              exact this
            have BX : Hid (Below w.heap.size w X) := by
              have hk := hKb.out
              unfold Hid
              rw [hX]
              exact ((((HB.out.setCell (p := ⟨Kb, 10, none⟩) hk _).setCell (p := ⟨Kb, 0, none⟩) hk _).setCell (p := ⟨Kb, 3, none⟩) hk _).setCell (p := ⟨Kb, 4, none⟩) hk _).drew
            clear hX
            (try clear hHeld)
            clear HS1 y0 y3 y4 y5 b0 b3 b4 b10 z0 z3 z4 z10 AK AF HB
            have OX := Hid.mk (H.out.below BX.out)
            have MX := Hid.mk (blk_below HM.out BX.out)
            have y9 := blk_cell OX.out.hF 9
            have y2 := blk_cell OX.out.hF 2
            have m0 := blk_cell MX.out 0
            have m1 := blk_cell MX.out 1
            have m2 := blk_cell MX.out 2
            have m3 := blk_cell MX.out 3
            have b0 := blk_cell AX.out 0
            have b1 := blk_cell AX.out 1
            have b2 := blk_cell AX.out 2
            have b3 := blk_cell AX.out 3
            have b4 := blk_cell AX.out 4
            have b5 := blk_cell AX.out 5
            have b6 := blk_cell AX.out 6
            have b7 := blk_cell AX.out 7
            have b8 := blk_cell AX.out 8
            have b9 := blk_cell AX.out 9
            have b10 := blk_cell AX.out 10
            have b11 := blk_cell AX.out 11
            have b12 := blk_cell AX.out 12
            simp only [frC, mcC, List.getElem?_toArray, List.getElem?_cons_zero, List.getElem?_cons_succ] at y9 y2 m0 m1 m2 m3 b0 b1 b2 b3 b4 b5 b6 b7 b8 b9 b10 b11 b12
            rw [hmv] at m3
            have HS2 := Hid.mk (And.intro y9 (And.intro m0 (And.intro m1 (And.intro m2 m3))))
            clear y9 m0 m1 m2 m3
            have hp := plOf_ok' HV.out HN.out.1.1 HN.out.1.2
            have hs := size_bd HV.out n
            refine wp_region_held_drew (S := (fun w' => w'.cell? ⟨F, 9, none⟩ = some (.pointer (some ⟨f.M, 0, none⟩)) ∧ w'.cell? ⟨f.M, 0, none⟩ = some (.slice mp.b1 mp.I.nV mp.d1) ∧ w'.cell? ⟨f.M, 1, none⟩ = some (.slice mp.b2 mp.I.nQ mp.d2) ∧ w'.cell? ⟨f.M, 2, none⟩ = some (.slice mp.b3 mp.I.nR mp.d3) ∧ w'.cell? ⟨f.M, 3, none⟩ = some (.int .i64 (v : Int)))) (by kernel_rfl) ?_ (fun hHeld => ?_)
            · exact HS2.out
            refine wpAnyH_take (i := 0) (v := ?_) rfl (by kernel_rfl) (by kernel_rfl) (by kernel_rfl) (fun _ _ _ h => h) (Or.inl ⟨by rfl, ?_⟩) (by assumption) ?_
            rotate_left
            · intro w hSw; (try dsimp only at hSw); go_simp; (try with_reducible rfl)
            rotate_left
            simp only [Act.put, List.setIfInBounds_toArray, List.set_cons_zero, List.set_cons_succ, List.getElem_toArray, List.getElem_cons_zero, List.getElem_cons_succ]
            refine wpAnyH_take (i := 1) (v := ?_) rfl (by kernel_rfl) (by kernel_rfl) (by kernel_rfl) (fun _ _ _ h => h) (Or.inl ⟨by rfl, ?_⟩) (by assumption) ?_
            rotate_left
            · intro w hSw; (try dsimp only at hSw); go_simp; (try with_reducible rfl)
            rotate_left
            simp only [Act.put, List.setIfInBounds_toArray, List.set_cons_zero, List.set_cons_succ, List.getElem_toArray, List.getElem_cons_zero, List.getElem_cons_succ]
            refine wpAnyH_take (i := 2) (v := ?_) rfl (by kernel_rfl) (by kernel_rfl) (by kernel_rfl) (fun _ _ _ h => h) (Or.inl ⟨by rfl, ?_⟩) (by assumption) ?_
            rotate_left
            · intro w hSw; (try dsimp only at hSw); go_simp; (try with_reducible rfl)
            rotate_left
            simp only [Act.put, List.setIfInBounds_toArray, List.set_cons_zero, List.set_cons_succ, List.getElem_toArray, List.getElem_cons_zero, List.getElem_cons_succ]
            refine wpAnyH_take (i := 3) (v := ?_) rfl (by kernel_rfl) (by kernel_rfl) (by kernel_rfl) (fun _ _ _ h => h) (Or.inl ⟨by rfl, ?_⟩) (by assumption) ?_
            rotate_left
            · intro w hSw; (try dsimp only at hSw); go_simp; (try with_reducible rfl)
            rotate_left
            simp only [Act.put, List.setIfInBounds_toArray, List.set_cons_zero, List.set_cons_succ, List.getElem_toArray, List.getElem_cons_zero, List.getElem_cons_succ]
            refine wpAnyH_take (i := 4) (v := ?_) rfl (by kernel_rfl) (by kernel_rfl) (by kernel_rfl) (fun _ _ _ h => h) (Or.inl ⟨by rfl, ?_⟩) (by assumption) ?_
            rotate_left
            · intro w hSw; (try dsimp only at hSw); go_simp; (try with_reducible rfl)
            rotate_left
            simp only [Act.put, List.setIfInBounds_toArray, List.set_cons_zero, List.set_cons_succ, List.getElem_toArray, List.getElem_cons_zero, List.getElem_cons_succ]
            refine wpAnyH_take (i := 5) (v := ?_) rfl (by kernel_rfl) (by kernel_rfl) (by kernel_rfl) (fun _ _ _ h => h) (Or.inl ⟨by rfl, ?_⟩) (by assumption) ?_
            rotate_left
            · intro w hSw; (try dsimp only at hSw); go_simp; (try with_reducible rfl)
            rotate_left
            simp only [Act.put, List.setIfInBounds_toArray, List.set_cons_zero, List.set_cons_succ, List.getElem_toArray, List.getElem_cons_zero, List.getElem_cons_succ]
            refine wpAnyH_take (i := 6) (v := ?_) rfl (by kernel_rfl) (by kernel_rfl) (by kernel_rfl) (fun _ _ _ h => h) (Or.inl ⟨by rfl, ?_⟩) (by assumption) ?_
            rotate_left
            · intro w hSw; (try dsimp only at hSw); go_simp; (try with_reducible rfl)
            rotate_left
            simp only [Act.put, List.setIfInBounds_toArray, List.set_cons_zero, List.set_cons_succ, List.getElem_toArray, List.getElem_cons_zero, List.getElem_cons_succ]
            refine wpAnyH_take (i := 7) (v := ?_) rfl (by kernel_rfl) (by kernel_rfl) (by kernel_rfl) (fun _ _ _ h => h) (Or.inl ⟨by rfl, ?_⟩) (by assumption) ?_
            rotate_left
            · intro w hSw; (try dsimp only at hSw); go_simp; (try with_reducible rfl)
            rotate_left
            simp only [Act.put, List.setIfInBounds_toArray, List.set_cons_zero, List.set_cons_succ, List.getElem_toArray, List.getElem_cons_zero, List.getElem_cons_succ]
            refine wpAnyH_take (i := 8) (v := ?_) rfl (by kernel_rfl) (by kernel_rfl) (by kernel_rfl) (fun _ _ _ h => h) (Or.inl ⟨by rfl, ?_⟩) (by assumption) ?_
            rotate_left
            · intro w hSw; (try dsimp only at hSw); go_simp; (try with_reducible rfl)
            rotate_left
            simp only [Act.put, List.setIfInBounds_toArray, List.set_cons_zero, List.set_cons_succ, List.getElem_toArray, List.getElem_cons_zero, List.getElem_cons_succ]
            refine wpAnyH_take (i := 9) (v := ?_) rfl (by kernel_rfl) (by kernel_rfl) (by kernel_rfl) (fun _ _ _ h => h) (Or.inl ⟨by rfl, ?_⟩) (by assumption) ?_
            rotate_left
            · intro w hSw; (try dsimp only at hSw); go_simp; (try with_reducible rfl)
            rotate_left
            simp only [Act.put, List.setIfInBounds_toArray, List.set_cons_zero, List.set_cons_succ, List.getElem_toArray, List.getElem_cons_zero, List.getElem_cons_succ]
            refine wpAnyH_take (i := 10) (v := ?_) rfl (by kernel_rfl) (by kernel_rfl) (by kernel_rfl) (fun _ _ _ h => h) (Or.inl ⟨by rfl, ?_⟩) (by assumption) ?_
            rotate_left
            · intro w hSw; (try dsimp only at hSw); go_simp; (try with_reducible rfl)
            rotate_left
            simp only [Act.put, List.setIfInBounds_toArray, List.set_cons_zero, List.set_cons_succ, List.getElem_toArray, List.getElem_cons_zero, List.getElem_cons_succ]
            refine wpAnyH_take (i := 11) (v := ?_) rfl (by kernel_rfl) (by kernel_rfl) (by kernel_rfl) (fun _ _ _ h => h) (Or.inl ⟨by rfl, ?_⟩) (by assumption) ?_
            rotate_left
            · intro w hSw; (try dsimp only at hSw); go_simp; (try with_reducible rfl)
            rotate_left
            simp only [Act.put, List.setIfInBounds_toArray, List.set_cons_zero, List.set_cons_succ, List.getElem_toArray, List.getElem_cons_zero, List.getElem_cons_succ]
            refine wpAnyH_take (i := 12) (v := ?_) rfl (by kernel_rfl) (by kernel_rfl) (by kernel_rfl) (fun _ _ _ h => h) (Or.inl ⟨by rfl, ?_⟩) (by assumption) ?_
            rotate_left
            · intro w hSw; (try dsimp only at hSw); go_simp; (try with_reducible rfl)
            rotate_left
            simp only [Act.put, List.setIfInBounds_toArray, List.set_cons_zero, List.set_cons_succ, List.getElem_toArray, List.getElem_cons_zero, List.getElem_cons_succ]
            refine wpAnyH_take (i := 15) (v := ?_) rfl (by kernel_rfl) (by kernel_rfl) (by kernel_rfl) (fun _ _ _ h => h) (Or.inl ⟨by rfl, ?_⟩) (by assumption) ?_
            rotate_left
            · intro w hSw; (try dsimp only at hSw); go_simp; (try with_reducible rfl)
            rotate_left
            simp only [Act.put, List.setIfInBounds_toArray, List.set_cons_zero, List.set_cons_succ, List.getElem_toArray, List.getElem_cons_zero, List.getElem_cons_succ]
            refine wpAnyH_ready (rs := [13, 14]) (by kernel_rfl) (by simp) ?_
            refine AllReadyH.cons rfl (fun K hK => ?_) ?_
            · go_simp
              refine hK.out _ _ ?_ (fun hHeld => ?_)
              · exact hHeld
              clear hK K
              (try simp only [Act.put, List.setIfInBounds_toArray, List.set_cons_zero, List.set_cons_succ, List.getElem_toArray, List.getElem_cons_zero, List.getElem_cons_succ])
              refine wpAnyH_ready (rs := [14]) (by kernel_rfl) (by simp) ?_
              refine AllReadyH.cons rfl (fun K hK => ?_) ?_
              · go_simp
                refine hK.out _ _ ?_ (fun hHeld => ?_)
                · exact hHeld
                clear hK K
                (try simp only [Act.put, List.setIfInBounds_toArray, List.set_cons_zero, List.set_cons_succ, List.getElem_toArray, List.getElem_cons_zero, List.getElem_cons_succ])
                refine wpAnyH_ready (rs := [16]) (by kernel_rfl) (by simp) ?_
                refine AllReadyH.cons rfl (fun K hK => ?_) ?_
                · go_simp
                  refine (onwardI mp.b1 mp.b2 mp.b3 mp.d1 mp.d2 mp.d3 mp.I v f.d n f.t 0 0 f.s f.l (sizeOf mp.I f.d) (plOf mp.I f.d).o (plOf mp.I f.d).c (plOf mp.I f.d).h (mp.I.V v).a f.p (pickOf mp.I f.d) (dropOf mp.I f.d) _ (HI.out.below BX.out.drew) HV.out h1 h2 hv HN.out.2.1 HN.out.2.2 HN.out.1.1 HN.out.1.2 p0 p1 _ _ _ _ _ _ _ _ _ _ rfl rfl rfl rfl rfl rfl rfl rfl rfl rfl (by have := hp.o0; omega) (by have a1 := hp.oc; have a2 := hp.c1; omega) hs.1 (by have := hs.2; omega)).mono ?_
                  rintro e w3 ⟨rfl, hb3⟩
                  have B3 := Hid.mk (below_then BX.out.drew hb3)
                  refine hK.out _ _ ?_ (fun hHeld => ?_)
                  · exact ⟨cell_keep hb3 hHeld.1, cell_keep hb3 hHeld.2.1, cell_keep hb3 hHeld.2.2.1, cell_keep hb3 hHeld.2.2.2.1, cell_keep hb3 hHeld.2.2.2.2⟩
                  clear hK K
                  (try simp only [Act.put, List.setIfInBounds_toArray, List.set_cons_zero, List.set_cons_succ, List.getElem_toArray, List.getElem_cons_zero, List.getElem_cons_succ])
                  refine wpAnyH_ready (rs := [17]) (by kernel_rfl) (by simp) ?_
                  refine AllReadyH.cons rfl (fun K hK => ?_) ?_
                  · go_simp
                    refine (enterI B F f r s _ (H.out.below B3.out) (Nat.le_trans hB B3.out.size) bF bR h13 n _ _ _ _ _ _ _ _ _ _ _ _ _).mono ?_
                    rintro e w4 ⟨⟨vv, rfl⟩, ho, ht⟩
                    have HO := Hid.mk ho
                    have HT := Hid.mk ht
                    have M4 := ht.blk (blk_below HM.out B3.out) mF mR mS
                    have q9 := blk_cell ho.hF 9
                    have q0 := blk_cell M4 0
                    have q1 := blk_cell M4 1
                    have q2 := blk_cell M4 2
                    have q3 := blk_cell M4 3
                    simp only [frC, mcC, List.getElem?_toArray, List.getElem?_cons_zero, List.getElem?_cons_succ] at q9 q0 q1 q2 q3
                    rw [hmv] at q3
                    refine hK.out _ _ ?_ (fun hHeld => ?_)
                    · exact ⟨q9, q0, q1, q2, q3⟩
                    clear hK K
                    (try simp only [Act.put, List.setIfInBounds_toArray, List.set_cons_zero, List.set_cons_succ, List.getElem_toArray, List.getElem_cons_zero, List.getElem_cons_succ])
                    refine wpAnyH_done (by kernel_rfl) ?_ _
                    go_wp2
                    go_end0
                    exact ⟨⟨_, rfl⟩, HO.out, (Oth.of_below B3.out hB).trans HT.out⟩
                  exact AllReadyH.nil
                exact AllReadyH.nil
              exact AllReadyH.nil
            refine AllReadyH.cons rfl (fun K hK => ?_) ?_
            · go_simp
              refine hK.out _ _ ?_ (fun hHeld => ?_)
              · exact hHeld
              clear hK K
              (try simp only [Act.put, List.setIfInBounds_toArray, List.set_cons_zero, List.set_cons_succ, List.getElem_toArray, List.getElem_cons_zero, List.getElem_cons_succ])
              refine wpAnyH_ready (rs := [13]) (by kernel_rfl) (by simp) ?_
              refine AllReadyH.cons rfl (fun K hK => ?_) ?_
              · go_simp
                refine hK.out _ _ ?_ (fun hHeld => ?_)
                · exact hHeld
                clear hK K
                (try simp only [Act.put, List.setIfInBounds_toArray, List.set_cons_zero, List.set_cons_succ, List.getElem_toArray, List.getElem_cons_zero, List.getElem_cons_succ])
                refine wpAnyH_ready (rs := [16]) (by kernel_rfl) (by simp) ?_
                refine AllReadyH.cons rfl (fun K hK => ?_) ?_
                · go_simp
                  refine (onwardI mp.b1 mp.b2 mp.b3 mp.d1 mp.d2 mp.d3 mp.I v f.d n f.t 0 0 f.s f.l (sizeOf mp.I f.d) (plOf mp.I f.d).o (plOf mp.I f.d).c (plOf mp.I f.d).h (mp.I.V v).a f.p (pickOf mp.I f.d) (dropOf mp.I f.d) _ (HI.out.below BX.out.drew) HV.out h1 h2 hv HN.out.2.1 HN.out.2.2 HN.out.1.1 HN.out.1.2 p0 p1 _ _ _ _ _ _ _ _ _ _ rfl rfl rfl rfl rfl rfl rfl rfl rfl rfl (by have := hp.o0; omega) (by have a1 := hp.oc; have a2 := hp.c1; omega) hs.1 (by have := hs.2; omega)).mono ?_
                  rintro e w3 ⟨rfl, hb3⟩
                  have B3 := Hid.mk (below_then BX.out.drew hb3)
                  refine hK.out _ _ ?_ (fun hHeld => ?_)
                  · exact ⟨cell_keep hb3 hHeld.1, cell_keep hb3 hHeld.2.1, cell_keep hb3 hHeld.2.2.1, cell_keep hb3 hHeld.2.2.2.1, cell_keep hb3 hHeld.2.2.2.2⟩
                  clear hK K
                  (try simp only [Act.put, List.setIfInBounds_toArray, List.set_cons_zero, List.set_cons_succ, List.getElem_toArray, List.getElem_cons_zero, List.getElem_cons_succ])
                  refine wpAnyH_ready (rs := [17]) (by kernel_rfl) (by simp) ?_
                  refine AllReadyH.cons rfl (fun K hK => ?_) ?_
                  · go_simp
                    refine (enterI B F f r s _ (H.out.below B3.out) (Nat.le_trans hB B3.out.size) bF bR h13 n _ _ _ _ _ _ _ _ _ _ _ _ _).mono ?_
                    rintro e w4 ⟨⟨vv, rfl⟩, ho, ht⟩
                    have HO := Hid.mk ho
                    have HT := Hid.mk ht
                    have M4 := ht.blk (blk_below HM.out B3.out) mF mR mS
                    have q9 := blk_cell ho.hF 9
                    have q0 := blk_cell M4 0
                    have q1 := blk_cell M4 1
                    have q2 := blk_cell M4 2
                    have q3 := blk_cell M4 3
                    simp only [frC, mcC, List.getElem?_toArray, List.getElem?_cons_zero, List.getElem?_cons_succ] at q9 q0 q1 q2 q3
                    rw [hmv] at q3
                    refine hK.out _ _ ?_ (fun hHeld => ?_)
                    · exact ⟨q9, q0, q1, q2, q3⟩
                    clear hK K
                    (try simp only [Act.put, List.setIfInBounds_toArray, List.set_cons_zero, List.set_cons_succ, List.getElem_toArray, List.getElem_cons_zero, List.getElem_cons_succ])
                    refine wpAnyH_done (by kernel_rfl) ?_ _
                    go_wp2
                    go_end0
                    exact ⟨⟨_, rfl⟩, HO.out, (Oth.of_below B3.out hB).trans HT.out⟩
                  exact AllReadyH.nil
                exact AllReadyH.nil
              exact AllReadyH.nil
            exact AllReadyH.nil
          exact AllReadyH.nil
        exact AllReadyH.nil
      exact AllReadyH.nil
    exact AllReadyH.nil
end Go.Proofs.YtgooegcmgejfpaaGreatDoor.Mac
