import Derived.Test.YtgooegcmgejfpaaGreatDoorGr36
import Derived.Test.YtgooegcmgejfpaaGreatDoorGr05
import Derived.Deep.DrawnRows
import Derived.Deep.CutRange
import Derived.Deep.Cut
import Derived.Deep.DeepCutAuto
namespace Go.Proofs.YtgooegcmgejfpaaGreatDoor.Mac
open Go Go.RowKit Go.Proofs.YtgooegcmgejfpaaGreatDoor.Mem Go.Proofs.YtgooegcmgejfpaaGreatDoor.Travel
open Go.Proofs.YtgooegcmgejfpaaGreatDoor.Valid (inB nodes nodes_bd validB ret_bool)
open Go.Proofs.YtgooegcmgejfpaaGreatDoor.StV (stopB)
set_option linter.unusedVariables false
set_option linter.unusedSimpArgs false
attribute [local go_sem ↓] Go.wp_at_zero Go.wp_at_succ

/-- The attributes before the first stop. -/
def startL (I : In) (v : Nat) : List Int := [(plOf I v).o, 0, 0, 0, 0, 0, (plOf I v).o, (plOf I v).c, (plOf I v).h, (I.V v).a, 0, 0, 0]
def zeros (n : Nat) : List Int := List.replicate n 0
theorem zeros_len (n : Nat) : (zeros n).length = n := by simp [zeros]
theorem zeros_get (n i : Nat) : (zeros n).getD i 0 = 0 := by
  simp only [zeros, List.getD_eq_getElem?_getD, List.getElem?_replicate]; split <;> rfl
theorem made_rw {w : World} {g n : Nat} (h : w.heap[g]? = some (.cells (madeCells #[.int .i64 0] n) 2)) : Rw w g (zeros n) := fun i hi => by
  rw [zeros_len] at hi
  rw [zeros_get]
  refine ⟨?_, blk_unfrozen h i⟩
  rw [blk_cell h i]
  simp [madeCells, hi, Nat.mod_one]
theorem iblk_new3' (w : World) (a b c d : Obj) : ((((w.alloc a).alloc b).alloc c).alloc d).heap[w.heap.size + 1 + 1 + 1]? = some d := by
  have := blk_new (((w.alloc a).alloc b).alloc c) d; simpa using this
/-- What start leaves. -/
def startOut (C : Co) (I : In) (v : Nat) : List Int × List Int × Int := exec (enHome I v) C.B1 C.n1 C.n1 0 (over (zeros C.R.toNat) (startL I v)) (zeros (C.S * I.nQ).toNat)
def StartPost (w : World) (mp : Mp) (C : Co) (I : In) (v : Nat) (e : Ending) (w' : World) : Prop :=
  ∃ F, e = .returned (.pointer (some ⟨F, 0, none⟩)) ∧ Below w.heap.size w w' ∧
    ((startOut C I v).2.2 = -1 ∧ (∃ f, f.p = 0 ∧ f.d = (v : Int) ∧ f.t = (plOf I v).o ∧ f.s = 0 ∧ f.l = 0 ∧ Frx w w' F f (startOut C I v).1 (startOut C I v).2.1 (zeros I.nQ) mp v) ∨
     1 ≤ (startOut C I v).2.2 ∧ ∃ M q nx, w'.heap[F]? = some (.cells (failC 0 (startOut C I v).2.2 M q nx) 93))
set_option maxHeartbeats 8000000 in
set_option maxRecDepth 100000 in
theorem startI (w : World) (M : Nat) (mp : Mp) (C : Co) (I : In) (u : Nat) (hm : Mach w M mp C I (u : Int)) (hco : ValC.okCo C = true) (hval : validB I = true) (hv : u < I.nV) :
    Calls Tryz.prog 52 #[.pointer (some ⟨M, 0, none⟩)] w (StartPost w mp C I u) := by
  obtain ⟨hM, ⟨B0, hBx⟩, hC, hI, rfl, rfl, hmv⟩ := hm
  have HM := Hid.mk hM
  have HBX := Hid.mk hBx
  have HC := Hid.mk hC
  have HI := Hid.mk hI
  have HCO := Hid.mk hco
  have HV := Hid.mk hval
  obtain ⟨k0, k1, k2, k3⟩ := StV.co_bd hco
  obtain ⟨l1, l2, l3⟩ := lens_bd (validB_parts hval).1
  have hmul := StV.mul_bd k2 k3 l2
  have hmw := StV.mul_wrap k2 k3 l2
  obtain ⟨Rn, hRn⟩ : ∃ Rn : Nat, mp.C.R = (Rn : Int) := ⟨mp.C.R.toNat, by omega⟩
  obtain ⟨Sn, hSn⟩ : ∃ Sn : Nat, mp.C.S * (mp.I.nQ : Int) = (Sn : Int) := ⟨(mp.C.S * mp.I.nQ).toNat, by omega⟩
  replace hmw := hmw.trans hSn
  have lR : Rn ≤ 1000 := by omega
  have lS : Sn ≤ 100000 := by omega
  have HR := Hid.mk hRn
  have HS := Hid.mk hSn
  have m1 := blk_cell hM 1
  have m4 := blk_cell hM 4
  have m5 := blk_cell hM 5
  simp only [frC, mcC, List.getElem?_toArray, List.getElem?_cons_zero, List.getElem?_cons_succ] at m1 m4 m5
  rw [hRn] at m4
  have hml := blk_lt hM
  clear hM hBx hC hI hco hval hRn hSn hmul
  have hmk1 := fun w => run_make_n (P := Tryz.prog) 32 2 _ 1 8 Tryz.underlying32 Copy.infoI mp.I.nQ (by omega) (by omega) w
  have hmk2 := fun w => run_make_n (P := Tryz.prog) 32 2 _ 1 8 Tryz.underlying32 Copy.infoI Rn (by omega) (by omega) w
  have hmk3 := fun w => run_make_n (P := Tryz.prog) 32 2 _ 1 8 Tryz.underlying32 Copy.infoI Sn (by omega) (by omega) w
  simp only [Nat.mul_one, Value.cells] at hmk1 hmk2 hmk3
  go_enter Tryz.func52, Tryz.ntmps52
  go_upto_region 2 with fail
  go_cut [4] (fun a wx => ∃ (gT gR gS F : Nat), a = .pointer (some ⟨F, 0, none⟩) ∧ Hid (w.heap.size ≤ gT ∧ w.heap.size ≤ gR ∧ w.heap.size ≤ gS ∧ gT < F ∧ gR < F ∧ gS < F ∧ gT ≠ gR ∧ gT ≠ gS ∧ gR ≠ gS) ∧ Hid (Below w.heap.size w wx) ∧ Hid (wx.heap[F]? = some (.cells (frC ⟨0, -1, 0, 0, 0, 0, some ⟨gT, 0, none⟩, mp.I.nQ, mp.I.nQ, gR, Rn, Rn, some ⟨gS, 0, none⟩, gS, Sn, Sn, M, 0, 0⟩) 93)) ∧ Hid (Rw wx gT (zeros mp.I.nQ)) ∧ Hid (Rw wx gR (zeros Rn)) ∧ Hid (Rw wx gS (zeros Sn)))
  case first =>
    have HSS := Hid.mk (And.intro m4 m5)
    have HB : Hid (Below w.heap.size w w.drew) := (Below.refl _ _).drew
    refine wp_region_held_drew (S := (fun w' => w'.cell? ⟨M, 4, none⟩ = some (.int .i64 (Rn : Int)) ∧ w'.cell? ⟨M, 5, none⟩ = some (.int .i64 mp.C.S))) (by kernel_rfl) ?_ (fun hHeld => ?_)
    · exact HSS.out
    refine wpAnyH_take (i := 0) (v := ?_) rfl (by kernel_rfl) (by kernel_rfl) (by kernel_rfl) (fun _ _ _ h => h) (Or.inl ⟨by rfl, ?_⟩) (by assumption) ?_
    rotate_left
    · intro w hSw; (try dsimp only at hSw); go_simp; (try with_reducible rfl)
    rotate_left
    simp only [Act.put, List.setIfInBounds_toArray, List.set_cons_zero, List.set_cons_succ, List.getElem_toArray, List.getElem_cons_zero, List.getElem_cons_succ]
    refine wpAnyH_take (i := 1) (v := ?_) rfl (by kernel_rfl) (by kernel_rfl) (by kernel_rfl) (fun _ _ _ h => h) (Or.inl ⟨by rfl, ?_⟩) (by assumption) ?_
    rotate_left
    · intro w hSw; (try dsimp only at hSw); go_simp; (try with_reducible rfl)
    rotate_left
    simp only [Act.put, List.setIfInBounds_toArray, List.set_cons_zero, List.set_cons_succ, List.getElem_toArray, List.getElem_cons_zero, List.getElem_cons_succ]
    refine wpAnyH_take (i := 3) (v := ?_) rfl (by kernel_rfl) (by kernel_rfl) (by kernel_rfl) (fun _ _ _ h => h) (Or.inl ⟨by rfl, ?_⟩) (by assumption) ?_
    rotate_left
    · intro w hSw; (try dsimp only at hSw); go_simp; (try with_reducible rfl)
    rotate_left
    simp only [Act.put, List.setIfInBounds_toArray, List.set_cons_zero, List.set_cons_succ, List.getElem_toArray, List.getElem_cons_zero, List.getElem_cons_succ]
    refine wpAnyH_take (i := 4) (v := ?_) rfl (by kernel_rfl) (by kernel_rfl) (by kernel_rfl) (fun _ _ _ h => h) (Or.inl ⟨by rfl, ?_⟩) (by assumption) ?_
    rotate_left
    · intro w hSw; (try dsimp only at hSw); go_simp; (try with_reducible rfl)
    rotate_left
    simp only [Act.put, List.setIfInBounds_toArray, List.set_cons_zero, List.set_cons_succ, List.getElem_toArray, List.getElem_cons_zero, List.getElem_cons_succ]
    refine wpAnyH_take (i := 5) (v := ?_) rfl (by kernel_rfl) (by kernel_rfl) (by kernel_rfl) (fun _ _ _ h => h) (Or.inl ⟨by rfl, ?_⟩) (by assumption) ?_
    rotate_left
    · intro w hSw; (try dsimp only at hSw); go_simp; (try with_reducible rfl)
    rotate_left
    simp only [Act.put, List.setIfInBounds_toArray, List.set_cons_zero, List.set_cons_succ, List.getElem_toArray, List.getElem_cons_zero, List.getElem_cons_succ]
    refine wpAnyH_take (i := 6) (v := ?_) rfl (by kernel_rfl) (by kernel_rfl) (by kernel_rfl) (fun _ _ _ h => h) (Or.inl ⟨by rfl, ?_⟩) (by assumption) ?_
    rotate_left
    · intro w hSw; (try dsimp only at hSw); go_simp; (try with_reducible rfl)
    rotate_left
    simp only [Act.put, List.setIfInBounds_toArray, List.set_cons_zero, List.set_cons_succ, List.getElem_toArray, List.getElem_cons_zero, List.getElem_cons_succ]
    refine wpAnyH_take (i := 7) (v := ?_) rfl (by kernel_rfl) (by kernel_rfl) (by kernel_rfl) (fun _ _ _ h => h) (Or.inl ⟨by rfl, ?_⟩) (by assumption) ?_
    rotate_left
    · intro w hSw; (try dsimp only at hSw); go_simp; (try with_reducible rfl)
    rotate_left
    simp only [Act.put, List.setIfInBounds_toArray, List.set_cons_zero, List.set_cons_succ, List.getElem_toArray, List.getElem_cons_zero, List.getElem_cons_succ]
    refine wpAnyH_take (i := 9) (v := ?_) rfl (by kernel_rfl) (by kernel_rfl) (by kernel_rfl) (fun _ _ _ h => h) (Or.inl ⟨by rfl, ?_⟩) (by assumption) ?_
    rotate_left
    · intro w hSw; (try dsimp only at hSw); go_simp; (try with_reducible rfl)
    rotate_left
    simp only [Act.put, List.setIfInBounds_toArray, List.set_cons_zero, List.set_cons_succ, List.getElem_toArray, List.getElem_cons_zero, List.getElem_cons_succ]
    refine wpAnyH_take (i := 10) (v := ?_) rfl (by kernel_rfl) (by kernel_rfl) (by kernel_rfl) (fun _ _ _ h => h) (Or.inl ⟨by rfl, ?_⟩) (by assumption) ?_
    rotate_left
    · intro w hSw; (try dsimp only at hSw); go_simp; (try with_reducible rfl)
    rotate_left
    simp only [Act.put, List.setIfInBounds_toArray, List.set_cons_zero, List.set_cons_succ, List.getElem_toArray, List.getElem_cons_zero, List.getElem_cons_succ]
    refine wpAnyH_take (i := 11) (v := ?_) rfl (by kernel_rfl) (by kernel_rfl) (by kernel_rfl) (fun _ _ _ h => h) (Or.inl ⟨by rfl, ?_⟩) (by assumption) ?_
    rotate_left
    · intro w hSw; (try dsimp only at hSw); go_simp; (try with_reducible rfl)
    rotate_left
    simp only [Act.put, List.setIfInBounds_toArray, List.set_cons_zero, List.set_cons_succ, List.getElem_toArray, List.getElem_cons_zero, List.getElem_cons_succ]
    refine wpAnyH_take (i := 12) (v := ?_) rfl (by kernel_rfl) (by kernel_rfl) (by kernel_rfl) (fun _ _ _ h => h) (Or.inl ⟨by rfl, ?_⟩) (by assumption) ?_
    rotate_left
    · intro w hSw; (try dsimp only at hSw); go_simp; (try with_reducible rfl)
    rotate_left
    simp only [Act.put, List.setIfInBounds_toArray, List.set_cons_zero, List.set_cons_succ, List.getElem_toArray, List.getElem_cons_zero, List.getElem_cons_succ]
    refine wpAnyH_take (i := 13) (v := ?_) rfl (by kernel_rfl) (by kernel_rfl) (by kernel_rfl) (fun _ _ _ h => h) (Or.inl ⟨by rfl, ?_⟩) (by assumption) ?_
    rotate_left
    · intro w hSw; (try dsimp only at hSw); go_simp; (try with_reducible rfl)
    rotate_left
    simp only [Act.put, List.setIfInBounds_toArray, List.set_cons_zero, List.set_cons_succ, List.getElem_toArray, List.getElem_cons_zero, List.getElem_cons_succ]
    refine wpAnyH_take (i := 14) (v := ?_) rfl (by kernel_rfl) (by kernel_rfl) (by kernel_rfl) (fun _ _ _ h => h) (Or.inl ⟨by rfl, ?_⟩) (by assumption) ?_
    rotate_left
    · intro w hSw; (try dsimp only at hSw); go_simp; (try with_reducible rfl)
    rotate_left
    simp only [Act.put, List.setIfInBounds_toArray, List.set_cons_zero, List.set_cons_succ, List.getElem_toArray, List.getElem_cons_zero, List.getElem_cons_succ]
    refine wpAnyH_take (i := 15) (v := ?_) rfl (by kernel_rfl) (by kernel_rfl) (by kernel_rfl) (fun _ _ _ h => h) (Or.inl ⟨by rfl, ?_⟩) (by assumption) ?_
    rotate_left
    · intro w hSw; (try dsimp only at hSw); go_simp; (try with_reducible rfl)
    rotate_left
    simp only [Act.put, List.setIfInBounds_toArray, List.set_cons_zero, List.set_cons_succ, List.getElem_toArray, List.getElem_cons_zero, List.getElem_cons_succ]
    refine wpAnyH_ready (rs := [2, 8, 16]) (by kernel_rfl) (by simp) ?_
    refine AllReadyH.cons rfl (fun K hK => ?_) ?_
    · go_simp
      refine hK.out _ _ ?_ (fun hHeld => ?_)
      · exact ⟨cell_alloc' hHeld.1 _, cell_alloc' hHeld.2 _⟩
      clear hK K
      (try simp only [Act.put, List.setIfInBounds_toArray, List.set_cons_zero, List.set_cons_succ, List.getElem_toArray, List.getElem_cons_zero, List.getElem_cons_succ])
      refine wpAnyH_ready (rs := [8, 16]) (by kernel_rfl) (by simp) ?_
      refine AllReadyH.cons rfl (fun K hK => ?_) ?_
      · go_simp
        refine hK.out _ _ ?_ (fun hHeld => ?_)
        · exact ⟨cell_alloc' hHeld.1 _, cell_alloc' hHeld.2 _⟩
        clear hK K
        (try simp only [Act.put, List.setIfInBounds_toArray, List.set_cons_zero, List.set_cons_succ, List.getElem_toArray, List.getElem_cons_zero, List.getElem_cons_succ])
        refine wpAnyH_ready (rs := [16]) (by kernel_rfl) (by simp) ?_
        refine AllReadyH.cons rfl (fun K hK => ?_) ?_
        · go_simp
          refine hK.out _ _ ?_ (fun hHeld => ?_)
          · exact ⟨cell_alloc' hHeld.1 _, cell_alloc' hHeld.2 _⟩
          clear hK K
          (try simp only [Act.put, List.setIfInBounds_toArray, List.set_cons_zero, List.set_cons_succ, List.getElem_toArray, List.getElem_cons_zero, List.getElem_cons_succ])
          refine wpAnyH_take (i := 17) (v := ?_) rfl (by kernel_rfl) (by kernel_rfl) (by kernel_rfl) (fun _ _ _ h => h) (Or.inl ⟨by rfl, ?_⟩) (by assumption) ?_
          rotate_left
          · intro w hSw; (try dsimp only at hSw); go_simp; (try with_reducible rfl)
          rotate_left
          simp only [Act.put, List.setIfInBounds_toArray, List.set_cons_zero, List.set_cons_succ, List.getElem_toArray, List.getElem_cons_zero, List.getElem_cons_succ]
          refine wpAnyH_take (i := 18) (v := ?_) rfl (by kernel_rfl) (by kernel_rfl) (by kernel_rfl) (fun _ _ _ h => h) (Or.inl ⟨by rfl, ?_⟩) (by assumption) ?_
          rotate_left
          · intro w hSw; (try dsimp only at hSw); go_simp; (try with_reducible rfl)
          rotate_left
          simp only [Act.put, List.setIfInBounds_toArray, List.set_cons_zero, List.set_cons_succ, List.getElem_toArray, List.getElem_cons_zero, List.getElem_cons_succ]
          refine wpAnyH_ready (rs := [19]) (by kernel_rfl) (by simp) ?_
          refine AllReadyH.cons rfl (fun K hK => ?_) ?_
          · go_simp
            refine hK.out _ _ ?_ (fun hHeld => ?_)
            · exact ⟨cell_alloc' hHeld.1 _, cell_alloc' hHeld.2 _⟩
            clear hK K
            (try simp only [Act.put, List.setIfInBounds_toArray, List.set_cons_zero, List.set_cons_succ, List.getElem_toArray, List.getElem_cons_zero, List.getElem_cons_succ])
            refine wpAnyH_ready (rs := [20]) (by kernel_rfl) (by simp) ?_
            refine AllReadyH.cons rfl (fun K hK => ?_) ?_
            · go_simp
              refine hK.out _ _ ?_ (fun hHeld => ?_)
              · exact hHeld
              clear hK K
              (try simp only [Act.put, List.setIfInBounds_toArray, List.set_cons_zero, List.set_cons_succ, List.getElem_toArray, List.getElem_cons_zero, List.getElem_cons_succ])
              refine wpAnyH_done (by kernel_rfl) ?_ _
              go_wp2_with fail
              go_meet
              exact ⟨w.heap.size, w.heap.size + 1, w.heap.size + 1 + 1, w.heap.size + 1 + 1 + 1, rfl, Hid.mk ⟨by omega, by omega, by omega, by omega, by omega, by omega, by omega, by omega, by omega⟩, Hid.mk (by go_grown), Hid.mk (mblk_drew (iblk_new3' w _ _ _ _)), Hid.mk (made_rw (mblk_drew (blk_alloc (blk_alloc (blk_alloc (blk_new w _) _) _) _))), Hid.mk (made_rw (mblk_drew (blk_alloc (blk_alloc (blk_new1 w _ _) _) _))), Hid.mk (made_rw (mblk_drew (blk_alloc (blk_new2 w _ _ _) _)))⟩
            exact AllReadyH.nil
          exact AllReadyH.nil
        exact AllReadyH.nil
      refine AllReadyH.cons rfl (fun K hK => ?_) ?_
      · go_simp
        refine hK.out _ _ ?_ (fun hHeld => ?_)
        · exact ⟨cell_alloc' hHeld.1 _, cell_alloc' hHeld.2 _⟩
        clear hK K
        (try simp only [Act.put, List.setIfInBounds_toArray, List.set_cons_zero, List.set_cons_succ, List.getElem_toArray, List.getElem_cons_zero, List.getElem_cons_succ])
        refine wpAnyH_ready (rs := [8]) (by kernel_rfl) (by simp) ?_
        refine AllReadyH.cons rfl (fun K hK => ?_) ?_
        · go_simp
          refine hK.out _ _ ?_ (fun hHeld => ?_)
          · exact ⟨cell_alloc' hHeld.1 _, cell_alloc' hHeld.2 _⟩
          clear hK K
          (try simp only [Act.put, List.setIfInBounds_toArray, List.set_cons_zero, List.set_cons_succ, List.getElem_toArray, List.getElem_cons_zero, List.getElem_cons_succ])
          refine wpAnyH_take (i := 17) (v := ?_) rfl (by kernel_rfl) (by kernel_rfl) (by kernel_rfl) (fun _ _ _ h => h) (Or.inl ⟨by rfl, ?_⟩) (by assumption) ?_
          rotate_left
          · intro w hSw; (try dsimp only at hSw); go_simp; (try with_reducible rfl)
          rotate_left
          simp only [Act.put, List.setIfInBounds_toArray, List.set_cons_zero, List.set_cons_succ, List.getElem_toArray, List.getElem_cons_zero, List.getElem_cons_succ]
          refine wpAnyH_take (i := 18) (v := ?_) rfl (by kernel_rfl) (by kernel_rfl) (by kernel_rfl) (fun _ _ _ h => h) (Or.inl ⟨by rfl, ?_⟩) (by assumption) ?_
          rotate_left
          · intro w hSw; (try dsimp only at hSw); go_simp; (try with_reducible rfl)
          rotate_left
          simp only [Act.put, List.setIfInBounds_toArray, List.set_cons_zero, List.set_cons_succ, List.getElem_toArray, List.getElem_cons_zero, List.getElem_cons_succ]
          refine wpAnyH_ready (rs := [19]) (by kernel_rfl) (by simp) ?_
          refine AllReadyH.cons rfl (fun K hK => ?_) ?_
          · go_simp
            refine hK.out _ _ ?_ (fun hHeld => ?_)
            · exact ⟨cell_alloc' hHeld.1 _, cell_alloc' hHeld.2 _⟩
            clear hK K
            (try simp only [Act.put, List.setIfInBounds_toArray, List.set_cons_zero, List.set_cons_succ, List.getElem_toArray, List.getElem_cons_zero, List.getElem_cons_succ])
            refine wpAnyH_ready (rs := [20]) (by kernel_rfl) (by simp) ?_
            refine AllReadyH.cons rfl (fun K hK => ?_) ?_
            · go_simp
              refine hK.out _ _ ?_ (fun hHeld => ?_)
              · exact hHeld
              clear hK K
              (try simp only [Act.put, List.setIfInBounds_toArray, List.set_cons_zero, List.set_cons_succ, List.getElem_toArray, List.getElem_cons_zero, List.getElem_cons_succ])
              refine wpAnyH_done (by kernel_rfl) ?_ _
              go_wp2_with fail
              go_meet
              exact ⟨w.heap.size, w.heap.size + 1 + 1, w.heap.size + 1, w.heap.size + 1 + 1 + 1, rfl, Hid.mk ⟨by omega, by omega, by omega, by omega, by omega, by omega, by omega, by omega, by omega⟩, Hid.mk (by go_grown), Hid.mk (mblk_drew (iblk_new3' w _ _ _ _)), Hid.mk (made_rw (mblk_drew (blk_alloc (blk_alloc (blk_alloc (blk_new w _) _) _) _))), Hid.mk (made_rw (mblk_drew (blk_alloc (blk_new2 w _ _ _) _))), Hid.mk (made_rw (mblk_drew (blk_alloc (blk_alloc (blk_new1 w _ _) _) _)))⟩
            exact AllReadyH.nil
          exact AllReadyH.nil
        exact AllReadyH.nil
      exact AllReadyH.nil
    refine AllReadyH.cons rfl (fun K hK => ?_) ?_
    · go_simp
      refine hK.out _ _ ?_ (fun hHeld => ?_)
      · exact ⟨cell_alloc' hHeld.1 _, cell_alloc' hHeld.2 _⟩
      clear hK K
      (try simp only [Act.put, List.setIfInBounds_toArray, List.set_cons_zero, List.set_cons_succ, List.getElem_toArray, List.getElem_cons_zero, List.getElem_cons_succ])
      refine wpAnyH_ready (rs := [2, 16]) (by kernel_rfl) (by simp) ?_
      refine AllReadyH.cons rfl (fun K hK => ?_) ?_
      · go_simp
        refine hK.out _ _ ?_ (fun hHeld => ?_)
        · exact ⟨cell_alloc' hHeld.1 _, cell_alloc' hHeld.2 _⟩
        clear hK K
        (try simp only [Act.put, List.setIfInBounds_toArray, List.set_cons_zero, List.set_cons_succ, List.getElem_toArray, List.getElem_cons_zero, List.getElem_cons_succ])
        refine wpAnyH_ready (rs := [16]) (by kernel_rfl) (by simp) ?_
        refine AllReadyH.cons rfl (fun K hK => ?_) ?_
        · go_simp
          refine hK.out _ _ ?_ (fun hHeld => ?_)
          · exact ⟨cell_alloc' hHeld.1 _, cell_alloc' hHeld.2 _⟩
          clear hK K
          (try simp only [Act.put, List.setIfInBounds_toArray, List.set_cons_zero, List.set_cons_succ, List.getElem_toArray, List.getElem_cons_zero, List.getElem_cons_succ])
          refine wpAnyH_take (i := 17) (v := ?_) rfl (by kernel_rfl) (by kernel_rfl) (by kernel_rfl) (fun _ _ _ h => h) (Or.inl ⟨by rfl, ?_⟩) (by assumption) ?_
          rotate_left
          · intro w hSw; (try dsimp only at hSw); go_simp; (try with_reducible rfl)
          rotate_left
          simp only [Act.put, List.setIfInBounds_toArray, List.set_cons_zero, List.set_cons_succ, List.getElem_toArray, List.getElem_cons_zero, List.getElem_cons_succ]
          refine wpAnyH_take (i := 18) (v := ?_) rfl (by kernel_rfl) (by kernel_rfl) (by kernel_rfl) (fun _ _ _ h => h) (Or.inl ⟨by rfl, ?_⟩) (by assumption) ?_
          rotate_left
          · intro w hSw; (try dsimp only at hSw); go_simp; (try with_reducible rfl)
          rotate_left
          simp only [Act.put, List.setIfInBounds_toArray, List.set_cons_zero, List.set_cons_succ, List.getElem_toArray, List.getElem_cons_zero, List.getElem_cons_succ]
          refine wpAnyH_ready (rs := [19]) (by kernel_rfl) (by simp) ?_
          refine AllReadyH.cons rfl (fun K hK => ?_) ?_
          · go_simp
            refine hK.out _ _ ?_ (fun hHeld => ?_)
            · exact ⟨cell_alloc' hHeld.1 _, cell_alloc' hHeld.2 _⟩
            clear hK K
            (try simp only [Act.put, List.setIfInBounds_toArray, List.set_cons_zero, List.set_cons_succ, List.getElem_toArray, List.getElem_cons_zero, List.getElem_cons_succ])
            refine wpAnyH_ready (rs := [20]) (by kernel_rfl) (by simp) ?_
            refine AllReadyH.cons rfl (fun K hK => ?_) ?_
            · go_simp
              refine hK.out _ _ ?_ (fun hHeld => ?_)
              · exact hHeld
              clear hK K
              (try simp only [Act.put, List.setIfInBounds_toArray, List.set_cons_zero, List.set_cons_succ, List.getElem_toArray, List.getElem_cons_zero, List.getElem_cons_succ])
              refine wpAnyH_done (by kernel_rfl) ?_ _
              go_wp2_with fail
              go_meet
              exact ⟨w.heap.size + 1, w.heap.size, w.heap.size + 1 + 1, w.heap.size + 1 + 1 + 1, rfl, Hid.mk ⟨by omega, by omega, by omega, by omega, by omega, by omega, by omega, by omega, by omega⟩, Hid.mk (by go_grown), Hid.mk (mblk_drew (iblk_new3' w _ _ _ _)), Hid.mk (made_rw (mblk_drew (blk_alloc (blk_alloc (blk_new1 w _ _) _) _))), Hid.mk (made_rw (mblk_drew (blk_alloc (blk_alloc (blk_alloc (blk_new w _) _) _) _))), Hid.mk (made_rw (mblk_drew (blk_alloc (blk_new2 w _ _ _) _)))⟩
            exact AllReadyH.nil
          exact AllReadyH.nil
        exact AllReadyH.nil
      refine AllReadyH.cons rfl (fun K hK => ?_) ?_
      · go_simp
        refine hK.out _ _ ?_ (fun hHeld => ?_)
        · exact ⟨cell_alloc' hHeld.1 _, cell_alloc' hHeld.2 _⟩
        clear hK K
        (try simp only [Act.put, List.setIfInBounds_toArray, List.set_cons_zero, List.set_cons_succ, List.getElem_toArray, List.getElem_cons_zero, List.getElem_cons_succ])
        refine wpAnyH_ready (rs := [2]) (by kernel_rfl) (by simp) ?_
        refine AllReadyH.cons rfl (fun K hK => ?_) ?_
        · go_simp
          refine hK.out _ _ ?_ (fun hHeld => ?_)
          · exact ⟨cell_alloc' hHeld.1 _, cell_alloc' hHeld.2 _⟩
          clear hK K
          (try simp only [Act.put, List.setIfInBounds_toArray, List.set_cons_zero, List.set_cons_succ, List.getElem_toArray, List.getElem_cons_zero, List.getElem_cons_succ])
          refine wpAnyH_take (i := 17) (v := ?_) rfl (by kernel_rfl) (by kernel_rfl) (by kernel_rfl) (fun _ _ _ h => h) (Or.inl ⟨by rfl, ?_⟩) (by assumption) ?_
          rotate_left
          · intro w hSw; (try dsimp only at hSw); go_simp; (try with_reducible rfl)
          rotate_left
          simp only [Act.put, List.setIfInBounds_toArray, List.set_cons_zero, List.set_cons_succ, List.getElem_toArray, List.getElem_cons_zero, List.getElem_cons_succ]
          refine wpAnyH_take (i := 18) (v := ?_) rfl (by kernel_rfl) (by kernel_rfl) (by kernel_rfl) (fun _ _ _ h => h) (Or.inl ⟨by rfl, ?_⟩) (by assumption) ?_
          rotate_left
          · intro w hSw; (try dsimp only at hSw); go_simp; (try with_reducible rfl)
          rotate_left
          simp only [Act.put, List.setIfInBounds_toArray, List.set_cons_zero, List.set_cons_succ, List.getElem_toArray, List.getElem_cons_zero, List.getElem_cons_succ]
          refine wpAnyH_ready (rs := [19]) (by kernel_rfl) (by simp) ?_
          refine AllReadyH.cons rfl (fun K hK => ?_) ?_
          · go_simp
            refine hK.out _ _ ?_ (fun hHeld => ?_)
            · exact ⟨cell_alloc' hHeld.1 _, cell_alloc' hHeld.2 _⟩
            clear hK K
            (try simp only [Act.put, List.setIfInBounds_toArray, List.set_cons_zero, List.set_cons_succ, List.getElem_toArray, List.getElem_cons_zero, List.getElem_cons_succ])
            refine wpAnyH_ready (rs := [20]) (by kernel_rfl) (by simp) ?_
            refine AllReadyH.cons rfl (fun K hK => ?_) ?_
            · go_simp
              refine hK.out _ _ ?_ (fun hHeld => ?_)
              · exact hHeld
              clear hK K
              (try simp only [Act.put, List.setIfInBounds_toArray, List.set_cons_zero, List.set_cons_succ, List.getElem_toArray, List.getElem_cons_zero, List.getElem_cons_succ])
              refine wpAnyH_done (by kernel_rfl) ?_ _
              go_wp2_with fail
              go_meet
              exact ⟨w.heap.size + 1 + 1, w.heap.size, w.heap.size + 1, w.heap.size + 1 + 1 + 1, rfl, Hid.mk ⟨by omega, by omega, by omega, by omega, by omega, by omega, by omega, by omega, by omega⟩, Hid.mk (by go_grown), Hid.mk (mblk_drew (iblk_new3' w _ _ _ _)), Hid.mk (made_rw (mblk_drew (blk_alloc (blk_new2 w _ _ _) _))), Hid.mk (made_rw (mblk_drew (blk_alloc (blk_alloc (blk_alloc (blk_new w _) _) _) _))), Hid.mk (made_rw (mblk_drew (blk_alloc (blk_alloc (blk_new1 w _ _) _) _)))⟩
            exact AllReadyH.nil
          exact AllReadyH.nil
        exact AllReadyH.nil
      exact AllReadyH.nil
    refine AllReadyH.cons rfl (fun K hK => ?_) ?_
    · go_simp
      refine hK.out _ _ ?_ (fun hHeld => ?_)
      · exact ⟨cell_alloc' hHeld.1 _, cell_alloc' hHeld.2 _⟩
      clear hK K
      (try simp only [Act.put, List.setIfInBounds_toArray, List.set_cons_zero, List.set_cons_succ, List.getElem_toArray, List.getElem_cons_zero, List.getElem_cons_succ])
      refine wpAnyH_ready (rs := [2, 8]) (by kernel_rfl) (by simp) ?_
      refine AllReadyH.cons rfl (fun K hK => ?_) ?_
      · go_simp
        refine hK.out _ _ ?_ (fun hHeld => ?_)
        · exact ⟨cell_alloc' hHeld.1 _, cell_alloc' hHeld.2 _⟩
        clear hK K
        (try simp only [Act.put, List.setIfInBounds_toArray, List.set_cons_zero, List.set_cons_succ, List.getElem_toArray, List.getElem_cons_zero, List.getElem_cons_succ])
        refine wpAnyH_ready (rs := [8]) (by kernel_rfl) (by simp) ?_
        refine AllReadyH.cons rfl (fun K hK => ?_) ?_
        · go_simp
          refine hK.out _ _ ?_ (fun hHeld => ?_)
          · exact ⟨cell_alloc' hHeld.1 _, cell_alloc' hHeld.2 _⟩
          clear hK K
          (try simp only [Act.put, List.setIfInBounds_toArray, List.set_cons_zero, List.set_cons_succ, List.getElem_toArray, List.getElem_cons_zero, List.getElem_cons_succ])
          refine wpAnyH_take (i := 17) (v := ?_) rfl (by kernel_rfl) (by kernel_rfl) (by kernel_rfl) (fun _ _ _ h => h) (Or.inl ⟨by rfl, ?_⟩) (by assumption) ?_
          rotate_left
          · intro w hSw; (try dsimp only at hSw); go_simp; (try with_reducible rfl)
          rotate_left
          simp only [Act.put, List.setIfInBounds_toArray, List.set_cons_zero, List.set_cons_succ, List.getElem_toArray, List.getElem_cons_zero, List.getElem_cons_succ]
          refine wpAnyH_take (i := 18) (v := ?_) rfl (by kernel_rfl) (by kernel_rfl) (by kernel_rfl) (fun _ _ _ h => h) (Or.inl ⟨by rfl, ?_⟩) (by assumption) ?_
          rotate_left
          · intro w hSw; (try dsimp only at hSw); go_simp; (try with_reducible rfl)
          rotate_left
          simp only [Act.put, List.setIfInBounds_toArray, List.set_cons_zero, List.set_cons_succ, List.getElem_toArray, List.getElem_cons_zero, List.getElem_cons_succ]
          refine wpAnyH_ready (rs := [19]) (by kernel_rfl) (by simp) ?_
          refine AllReadyH.cons rfl (fun K hK => ?_) ?_
          · go_simp
            refine hK.out _ _ ?_ (fun hHeld => ?_)
            · exact ⟨cell_alloc' hHeld.1 _, cell_alloc' hHeld.2 _⟩
            clear hK K
            (try simp only [Act.put, List.setIfInBounds_toArray, List.set_cons_zero, List.set_cons_succ, List.getElem_toArray, List.getElem_cons_zero, List.getElem_cons_succ])
            refine wpAnyH_ready (rs := [20]) (by kernel_rfl) (by simp) ?_
            refine AllReadyH.cons rfl (fun K hK => ?_) ?_
            · go_simp
              refine hK.out _ _ ?_ (fun hHeld => ?_)
              · exact hHeld
              clear hK K
              (try simp only [Act.put, List.setIfInBounds_toArray, List.set_cons_zero, List.set_cons_succ, List.getElem_toArray, List.getElem_cons_zero, List.getElem_cons_succ])
              refine wpAnyH_done (by kernel_rfl) ?_ _
              go_wp2_with fail
              go_meet
              exact ⟨w.heap.size + 1, w.heap.size + 1 + 1, w.heap.size, w.heap.size + 1 + 1 + 1, rfl, Hid.mk ⟨by omega, by omega, by omega, by omega, by omega, by omega, by omega, by omega, by omega⟩, Hid.mk (by go_grown), Hid.mk (mblk_drew (iblk_new3' w _ _ _ _)), Hid.mk (made_rw (mblk_drew (blk_alloc (blk_alloc (blk_new1 w _ _) _) _))), Hid.mk (made_rw (mblk_drew (blk_alloc (blk_new2 w _ _ _) _))), Hid.mk (made_rw (mblk_drew (blk_alloc (blk_alloc (blk_alloc (blk_new w _) _) _) _)))⟩
            exact AllReadyH.nil
          exact AllReadyH.nil
        exact AllReadyH.nil
      refine AllReadyH.cons rfl (fun K hK => ?_) ?_
      · go_simp
        refine hK.out _ _ ?_ (fun hHeld => ?_)
        · exact ⟨cell_alloc' hHeld.1 _, cell_alloc' hHeld.2 _⟩
        clear hK K
        (try simp only [Act.put, List.setIfInBounds_toArray, List.set_cons_zero, List.set_cons_succ, List.getElem_toArray, List.getElem_cons_zero, List.getElem_cons_succ])
        refine wpAnyH_ready (rs := [2]) (by kernel_rfl) (by simp) ?_
        refine AllReadyH.cons rfl (fun K hK => ?_) ?_
        · go_simp
          refine hK.out _ _ ?_ (fun hHeld => ?_)
          · exact ⟨cell_alloc' hHeld.1 _, cell_alloc' hHeld.2 _⟩
          clear hK K
          (try simp only [Act.put, List.setIfInBounds_toArray, List.set_cons_zero, List.set_cons_succ, List.getElem_toArray, List.getElem_cons_zero, List.getElem_cons_succ])
          refine wpAnyH_take (i := 17) (v := ?_) rfl (by kernel_rfl) (by kernel_rfl) (by kernel_rfl) (fun _ _ _ h => h) (Or.inl ⟨by rfl, ?_⟩) (by assumption) ?_
          rotate_left
          · intro w hSw; (try dsimp only at hSw); go_simp; (try with_reducible rfl)
          rotate_left
          simp only [Act.put, List.setIfInBounds_toArray, List.set_cons_zero, List.set_cons_succ, List.getElem_toArray, List.getElem_cons_zero, List.getElem_cons_succ]
          refine wpAnyH_take (i := 18) (v := ?_) rfl (by kernel_rfl) (by kernel_rfl) (by kernel_rfl) (fun _ _ _ h => h) (Or.inl ⟨by rfl, ?_⟩) (by assumption) ?_
          rotate_left
          · intro w hSw; (try dsimp only at hSw); go_simp; (try with_reducible rfl)
          rotate_left
          simp only [Act.put, List.setIfInBounds_toArray, List.set_cons_zero, List.set_cons_succ, List.getElem_toArray, List.getElem_cons_zero, List.getElem_cons_succ]
          refine wpAnyH_ready (rs := [19]) (by kernel_rfl) (by simp) ?_
          refine AllReadyH.cons rfl (fun K hK => ?_) ?_
          · go_simp
            refine hK.out _ _ ?_ (fun hHeld => ?_)
            · exact ⟨cell_alloc' hHeld.1 _, cell_alloc' hHeld.2 _⟩
            clear hK K
            (try simp only [Act.put, List.setIfInBounds_toArray, List.set_cons_zero, List.set_cons_succ, List.getElem_toArray, List.getElem_cons_zero, List.getElem_cons_succ])
            refine wpAnyH_ready (rs := [20]) (by kernel_rfl) (by simp) ?_
            refine AllReadyH.cons rfl (fun K hK => ?_) ?_
            · go_simp
              refine hK.out _ _ ?_ (fun hHeld => ?_)
              · exact hHeld
              clear hK K
              (try simp only [Act.put, List.setIfInBounds_toArray, List.set_cons_zero, List.set_cons_succ, List.getElem_toArray, List.getElem_cons_zero, List.getElem_cons_succ])
              refine wpAnyH_done (by kernel_rfl) ?_ _
              go_wp2_with fail
              go_meet
              exact ⟨w.heap.size + 1 + 1, w.heap.size + 1, w.heap.size, w.heap.size + 1 + 1 + 1, rfl, Hid.mk ⟨by omega, by omega, by omega, by omega, by omega, by omega, by omega, by omega, by omega⟩, Hid.mk (by go_grown), Hid.mk (mblk_drew (iblk_new3' w _ _ _ _)), Hid.mk (made_rw (mblk_drew (blk_alloc (blk_new2 w _ _ _) _))), Hid.mk (made_rw (mblk_drew (blk_alloc (blk_alloc (blk_new1 w _ _) _) _))), Hid.mk (made_rw (mblk_drew (blk_alloc (blk_alloc (blk_alloc (blk_new w _) _) _) _)))⟩
            exact AllReadyH.nil
          exact AllReadyH.nil
        exact AllReadyH.nil
      exact AllReadyH.nil
    exact AllReadyH.nil
  case rest =>
    obtain ⟨gT, gR, gS, F, rfl, hd, HB, AF, RT, RR, RS⟩ := hcut
    obtain ⟨d1, d2, d3, d4, d5, d6, d7, d8, d9⟩ := hd.out
    have hFl := blk_lt AF.out
    have OK : Hid (Ok wc F ⟨0, -1, 0, 0, 0, 0, some ⟨gT, 0, none⟩, mp.I.nQ, mp.I.nQ, gR, Rn, Rn, some ⟨gS, 0, none⟩, gS, Sn, Sn, M, 0, 0⟩ (zeros Rn) (zeros Sn)) := Hid.mk ⟨AF.out, RR.out, RS.out, (zeros_len _).symm, (zeros_len _).symm, Or.inr rfl, by show F ≠ gR; omega, by show F ≠ gS; omega, d9⟩
    have MC := Hid.mk (blk_below HM.out HB.out)
    clear m1 m4 m5 hmk1 hmk2 hmk3
    have m0 := blk_cell MC.out 0
    have m1 := blk_cell MC.out 1
    have m2 := blk_cell MC.out 2
    have m3 := blk_cell MC.out 3
    simp only [frC, mcC, List.getElem?_toArray, List.getElem?_cons_zero, List.getElem?_cons_succ] at m0 m1 m2 m3
    rw [hmv] at m3
    go_upto_region 3 with fail
    have HS3 := Hid.mk (And.intro m0 (And.intro m1 (And.intro m2 m3)))
    clear m0 m1 m2 m3
    refine wp_region_held_drew (S := (fun w' => w'.cell? ⟨M, 0, none⟩ = some (.slice mp.b1 mp.I.nV mp.d1) ∧ w'.cell? ⟨M, 1, none⟩ = some (.slice mp.b2 mp.I.nQ mp.d2) ∧ w'.cell? ⟨M, 2, none⟩ = some (.slice mp.b3 mp.I.nR mp.d3) ∧ w'.cell? ⟨M, 3, none⟩ = some (.int .i64 (u : Int)))) (by kernel_rfl) ?_ (fun hHeld => ?_)
    · exact HS3.out
    refine wpAnyH_take (i := 0) (v := ?_) rfl (by kernel_rfl) (by kernel_rfl) (by kernel_rfl) (fun _ _ _ h => h) (Or.inl ⟨by rfl, ?_⟩) (by assumption) ?_
    rotate_left
    · intro w hSw; (try dsimp only at hSw); go_simp; (try with_reducible rfl)
    rotate_left
    simp only [Act.put, List.setIfInBounds_toArray, List.set_cons_zero, List.set_cons_succ, List.getElem_toArray, List.getElem_cons_zero, List.getElem_cons_succ]
    refine wpAnyH_take (i := 1) (v := ?_) rfl (by kernel_rfl) (by kernel_rfl) (by kernel_rfl) (fun _ _ _ h => h) (Or.inl ⟨by rfl, ?_⟩) (by assumption) ?_
    rotate_left
    · intro w hSw; (try dsimp only at hSw); go_simp; (try with_reducible rfl)
    rotate_left
    simp only [Act.put, List.setIfInBounds_toArray, List.set_cons_zero, List.set_cons_succ, List.getElem_toArray, List.getElem_cons_zero, List.getElem_cons_succ]
    refine wpAnyH_take (i := 2) (v := ?_) rfl (by kernel_rfl) (by kernel_rfl) (by kernel_rfl) (fun _ _ _ h => h) (Or.inl ⟨by rfl, ?_⟩) (by assumption) ?_
    rotate_left
    · intro w hSw; (try dsimp only at hSw); go_simp; (try with_reducible rfl)
    rotate_left
    simp only [Act.put, List.setIfInBounds_toArray, List.set_cons_zero, List.set_cons_succ, List.getElem_toArray, List.getElem_cons_zero, List.getElem_cons_succ]
    refine wpAnyH_take (i := 3) (v := ?_) rfl (by kernel_rfl) (by kernel_rfl) (by kernel_rfl) (fun _ _ _ h => h) (Or.inl ⟨by rfl, ?_⟩) (by assumption) ?_
    rotate_left
    · intro w hSw; (try dsimp only at hSw); go_simp; (try with_reducible rfl)
    rotate_left
    simp only [Act.put, List.setIfInBounds_toArray, List.set_cons_zero, List.set_cons_succ, List.getElem_toArray, List.getElem_cons_zero, List.getElem_cons_succ]
    refine wpAnyH_take (i := 4) (v := ?_) rfl (by kernel_rfl) (by kernel_rfl) (by kernel_rfl) (fun _ _ _ h => h) (Or.inl ⟨by rfl, ?_⟩) (by assumption) ?_
    rotate_left
    · intro w hSw; (try dsimp only at hSw); go_simp; (try with_reducible rfl)
    rotate_left
    simp only [Act.put, List.setIfInBounds_toArray, List.set_cons_zero, List.set_cons_succ, List.getElem_toArray, List.getElem_cons_zero, List.getElem_cons_succ]
    refine wpAnyH_take (i := 5) (v := ?_) rfl (by kernel_rfl) (by kernel_rfl) (by kernel_rfl) (fun _ _ _ h => h) (Or.inl ⟨by rfl, ?_⟩) (by assumption) ?_
    rotate_left
    · intro w hSw; (try dsimp only at hSw); go_simp; (try with_reducible rfl)
    rotate_left
    simp only [Act.put, List.setIfInBounds_toArray, List.set_cons_zero, List.set_cons_succ, List.getElem_toArray, List.getElem_cons_zero, List.getElem_cons_succ]
    refine wpAnyH_take (i := 6) (v := ?_) rfl (by kernel_rfl) (by kernel_rfl) (by kernel_rfl) (fun _ _ _ h => h) (Or.inl ⟨by rfl, ?_⟩) (by assumption) ?_
    rotate_left
    · intro w hSw; (try dsimp only at hSw); go_simp; (try with_reducible rfl)
    rotate_left
    simp only [Act.put, List.setIfInBounds_toArray, List.set_cons_zero, List.set_cons_succ, List.getElem_toArray, List.getElem_cons_zero, List.getElem_cons_succ]
    refine wpAnyH_take (i := 7) (v := ?_) rfl (by kernel_rfl) (by kernel_rfl) (by kernel_rfl) (fun _ _ _ h => h) (Or.inl ⟨by rfl, ?_⟩) (by assumption) ?_
    rotate_left
    · intro w hSw; (try dsimp only at hSw); go_simp; (try with_reducible rfl)
    rotate_left
    simp only [Act.put, List.setIfInBounds_toArray, List.set_cons_zero, List.set_cons_succ, List.getElem_toArray, List.getElem_cons_zero, List.getElem_cons_succ]
    refine wpAnyH_take (i := 8) (v := ?_) rfl (by kernel_rfl) (by kernel_rfl) (by kernel_rfl) (fun _ _ _ h => h) (Or.inl ⟨by rfl, ?_⟩) (by assumption) ?_
    rotate_left
    · intro w hSw; (try dsimp only at hSw); go_simp; (try with_reducible rfl)
    rotate_left
    simp only [Act.put, List.setIfInBounds_toArray, List.set_cons_zero, List.set_cons_succ, List.getElem_toArray, List.getElem_cons_zero, List.getElem_cons_succ]
    refine wpAnyH_take (i := 9) (v := ?_) rfl (by kernel_rfl) (by kernel_rfl) (by kernel_rfl) (fun _ _ _ h => h) (Or.inl ⟨by rfl, ?_⟩) (by assumption) ?_
    rotate_left
    · intro w hSw; (try dsimp only at hSw); go_simp; (try with_reducible rfl)
    rotate_left
    simp only [Act.put, List.setIfInBounds_toArray, List.set_cons_zero, List.set_cons_succ, List.getElem_toArray, List.getElem_cons_zero, List.getElem_cons_succ]
    refine wpAnyH_ready (rs := [10]) (by kernel_rfl) (by simp) ?_
    refine AllReadyH.cons rfl (fun K hK => ?_) ?_
    · go_simp
      refine (atStartI mp.b1 mp.b2 mp.b3 mp.d1 mp.d2 mp.d3 mp.I u _ (HI.out.below HB.out.drew) l1 l2 hv).mono ?_
      rintro e w3 ⟨rfl, hb3⟩
      have B3 := Hid.mk (below_then HB.out.drew hb3)
      have O3 := Hid.mk ((OK.out.below (Below.refl _ _).drew).below hb3)
      have RT3 := Hid.mk ((RT.out.below (Below.refl _ _).drew).below hb3)
      refine hK.out _ _ ?_ (fun hHeld => ?_)
      · exact ⟨cell_keep hb3 hHeld.1, cell_keep hb3 hHeld.2.1, cell_keep hb3 hHeld.2.2.1, cell_keep hb3 hHeld.2.2.2⟩
      clear hK K
      (try simp only [Act.put, List.setIfInBounds_toArray, List.set_cons_zero, List.set_cons_succ, List.getElem_toArray, List.getElem_cons_zero, List.getElem_cons_succ])
      refine wpAnyH_ready (rs := [11]) (by kernel_rfl) (by simp) ?_
      refine AllReadyH.cons rfl (fun K hK => ?_) ?_
      · go_simp
        refine (enterI w.heap.size F _ _ _ _ O3.out B3.out.size (by omega) d2 (by have := HR.out; show 13 ≤ Rn; omega) (u : Int) _ _ _ _ _ _ _ _ _ _ _ _ _).mono ?_
        rintro e w4 ⟨⟨vv, rfl⟩, ho, ht⟩
        have HO : Hid (Ok w4 F ⟨0, -1, (u : Int), (plOf mp.I u).o, 0, 0, some ⟨gT, 0, none⟩, mp.I.nQ, mp.I.nQ, gR, Rn, Rn, some ⟨gS, 0, none⟩, gS, Sn, Sn, M, 0, 0⟩ (over (zeros Rn) (startL mp.I u)) (zeros Sn)) := Hid.mk ho
        have HT : Hid (Oth w.heap.size F gR gS w3 w4) := Hid.mk ht
        have B4 := Hid.mk (B3.out.trans ht.bel)
        have M4 := Hid.mk (blk_below HM.out B4.out)
        have q0 := blk_cell M4.out 0
        have q1 := blk_cell M4.out 1
        have q2 := blk_cell M4.out 2
        have q3 := blk_cell M4.out 3
        simp only [frC, mcC, List.getElem?_toArray, List.getElem?_cons_zero, List.getElem?_cons_succ] at q0 q1 q2 q3
        rw [hmv] at q3
        refine hK.out _ _ ?_ (fun hHeld => ?_)
        · exact ⟨q0, q1, q2, q3⟩
        clear hK K
        (try simp only [Act.put, List.setIfInBounds_toArray, List.set_cons_zero, List.set_cons_succ, List.getElem_toArray, List.getElem_cons_zero, List.getElem_cons_succ])
        refine wpAnyH_done (by kernel_rfl) ?_ _
        go_upto_region 4 with fail
        have hTr : Hid (Rw w4 gT (zeros mp.I.nQ)) := Hid.mk (RT3.out.oth HT.out (by omega) d7 d8)
        have bx : ∀ k fid, w.heap[k]? = some (.cells #[fnV fid] 130) → Box w4 F gR gS k fid := fun k fid hk => by
          have := blk_lt hk
          exact ⟨blk_below hk B4.out, by omega, by omega, by omega⟩
        have hB := HBX.out
        have hpl := plOf_ok' HV.out (n := (u : Int)) (by omega) (by unfold nodes; omega)
        have hve := veh_bd HV.out hv
        have hbd : Bd (startL mp.I u) := by
          have a1 := hpl.o0; have a2 := hpl.oc; have a3 := hpl.c1; have a4 := hpl.h0; have a5 := hpl.h1; have a6 := hve.1; have a7 := hve.2.1
          intro i
          unfold startL
          rcases i with _ | _ | _ | _ | _ | _ | _ | _ | _ | _ | _ | _ | _ | i <;> simp only [List.getD_cons_zero, List.getD_cons_succ, List.getD_nil, Nat.zero_add] <;> omega
        have hbz : ∀ n, Bd (zeros n) := fun n i => by rw [zeros_get]; omega
        have X : Hid (Frx w w4 F ⟨0, -1, (u : Int), (plOf mp.I u).o, 0, 0, some ⟨gT, 0, none⟩, mp.I.nQ, mp.I.nQ, gR, Rn, Rn, some ⟨gS, 0, none⟩, gS, Sn, Sn, M, 0, 0⟩ (over (zeros Rn) (startL mp.I u)) (zeros Sn) (zeros mp.I.nQ) mp u) := Hid.mk ⟨⟨HO.out, B4.out, by omega, d2, d3, blk_below HM.out B4.out, by show M ≠ F; omega, by show M ≠ gR; omega, by show M ≠ gS; omega, HI.out, HC.out, bx _ _ hB.b5, bx _ _ hB.b6, bx _ _ hB.b7, bx _ _ hB.b8, bx _ _ hB.b9, bx _ _ hB.b10, bx _ _ hB.b11, bx _ _ hB.b12, HV.out, HCO.out, hmv, hv, HR.out.symm, HS.out.symm, bd_over hbd (hbz _), hbz _, rfl, by show (0 : Int) ≤ 0; omega, by show (0 : Int) ≤ 4097; omega, by show (0 : Int) ≤ u; omega, by show (u : Int) ≤ nodes mp.I - 1; unfold nodes; omega, (zeros_len _).symm, zeros_len _, by show gS < w4.heap.size; have a1 := B3.out.size; have a2 := blk_lt HO.out.hF; omega, Or.inr ⟨gT, rfl, d1, by omega, d7, d8, hTr.out⟩⟩, hml, blk_lt hB.b5, blk_lt hB.b6, blk_lt hB.b7, blk_lt hB.b8, blk_lt hB.b9, blk_lt hB.b10, blk_lt hB.b11, blk_lt hB.b12⟩
        clear hB bx
        have m6 := blk_cell M4.out 6
        simp only [frC, mcC, List.getElem?_toArray, List.getElem?_cons_zero, List.getElem?_cons_succ] at m6
        have hb1 : Hid (ValC.okBlk mp.C.R mp.C.S mp.C.n1 mp.C.B1 = true) := by
          have := HCO.out
          unfold ValC.okCo at this
          simp only [Bool.and_eq_true] at this
          exact this.1.1.2
        have hE : Hid (enAt mp.I u (u : Int) = enHome mp.I u) := enAt_home hv
        have hSO : Hid (startOut mp.C mp.I u = exec (enAt mp.I u (u : Int)) mp.C.B1 mp.C.n1 mp.C.n1 0 (over (zeros Rn) (startL mp.I u)) (zeros Sn)) := by
          unfold Hid startOut
          rw [hE.out, HR.out, HS.out, Int.toNat_natCast, Int.toNat_natCast]
        go_wp2_with fail
        refine (X.out.fra.block mp.C.B1 mp.C.n1 mp.c1 mp.a1 HC.out.b1 hb1.out).mono ?_
        rintro e w5 ⟨⟨vv5, rfl⟩, ht5, hr5⟩
        have T5 := Hid.mk ht5
        have R5 := Hid.mk hr5
        clear ht5 hr5 m6
        go_wp2
        go_ret
        refine ⟨F, rfl, B4.out.trans T5.out.bel, ?_⟩
        rw [hSO.out]
        rcases R5.out with ⟨x1, nx, hrun⟩ | ⟨x1, nx, hF⟩
        · exact Or.inl ⟨x1, _, rfl, rfl, rfl, rfl, rfl, X.out.ran hrun T5.out⟩
        · exact Or.inr ⟨x1, _, _, nx, hF⟩
      exact AllReadyH.nil
    exact AllReadyH.nil
end Go.Proofs.YtgooegcmgejfpaaGreatDoor.Mac
