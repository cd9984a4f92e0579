import Derived.Test.YtgooegcmgejfpaaGreatDoorGs16
import Derived.Deep.DrawnRows
import Derived.StillTailTactics
import Derived.Deep.DeepCutAuto
import Derived.Laws.IdiomCopy
import Derived.Lib.SlBuf
namespace Go.Proofs.YtgooegcmgejfpaaGreatDoor.Mac
open Go Go.RowKit Go.Proofs.YtgooegcmgejfpaaGreatDoor.Mem
set_option linter.unusedVariables false
set_option linter.unusedSimpArgs false
attribute [local go_sem ↓] Go.wp_at_zero Go.wp_at_succ

/-- The attributes over the first registers. -/
def over (r A : List Int) : List Int := A ++ r.drop A.length
theorem over_len {r A : List Int} (h : A.length ≤ r.length) : (over r A).length = r.length := by unfold over; simp; omega
theorem Rw.there {w : World} {g : Nat} {l : List Int} (h : Rw w g l) : w.there g 0 l.length := fun j hj => by
  rw [Nat.zero_add, (h j hj).1, (h j hj).2]; exact ⟨rfl, rfl⟩
theorem Rw.over {w : World} {g : Nat} {r A : List Int} (h : Rw w g r) (hl : A.length ≤ r.length) : Rw (w.setCells g 0 (icells A)) g (over r A) := fun i hi => by
  rw [over_len hl] at hi
  have ht := World.there_setCells (w := w) h.there g 0 (icells A)
  refine ⟨?_, by have := (ht i hi).2; rwa [Nat.zero_add] at this⟩
  by_cases hA : i < A.length
  · have hs := World.rangeAt_setCells_same w g 0 (icells A) (there_part h.there (by omega) (by simp [icells]; omega))
    have e : (icells A)[i]? = some (.int .i64 (A.getD i 0)) := by simp [icells, List.getD_eq_getElem?_getD, hA]
    have := hs i _ e
    rw [Nat.zero_add] at this
    rw [this]
    simp [Mac.over, List.getD_eq_getElem?_getD, List.getElem?_append, hA]
  · have h1 : w.rangeAt g i [.int .i64 (r.getD i 0)] := fun j u hu => by
      cases j with
      | zero => simp at hu; subst hu; exact (h i hi).1
      | succ j => simp at hu
    have := (World.rangeAt_setCells_apart h1 g 0 (icells A) (Or.inr (Or.inr (by simp [icells]; omega)))) 0 _ rfl
    rw [Nat.add_zero] at this
    rw [this]
    simp only [Mac.over, List.getD_eq_getElem?_getD, List.getElem?_append, if_neg hA, List.getElem?_drop]
    rw [show A.length + (i - A.length) = i by omega]
theorem Rw.setCells {w : World} {g g' : Nat} {l : List Int} (h : Rw w g l) (hne : g' ≠ g) : ∀ (vs : List Value) (o : Nat), Rw (w.setCells g' o vs) g l := fun vs => by
  induction vs generalizing w with
  | nil => intro o; exact h
  | cons v r ih => intro o; exact ih (h.other (p := ⟨g', o, none⟩) hne v) (o + 1)
theorem blk_setCells {g g' : Nat} {o : Obj} (hne : g ≠ g') : ∀ (vs : List Value) (i : Nat) (w : World), w.heap[g]? = some o → (w.setCells g' i vs).heap[g]? = some o
  | [], _, _, h => h
  | v :: r, i, w, h => blk_setCells hne r (i + 1) _ (blk_set_other h (p := ⟨g', i, none⟩) hne v)
theorem Ok.over {w : World} {F : Nat} {f : Fr} {r s : List Int} (h : Ok w F f r s) (A : List Int) (hl : A.length ≤ r.length) : Ok (w.setCells f.gR 0 (icells A)) F f (Mac.over r A) s :=
  ⟨blk_setCells h.fr _ _ _ h.hF, h.hr.over hl, h.hs.setCells h.rs _ _, by rw [over_len hl]; exact h.nr, h.ns, h.aS, h.fr, h.fs, h.rs⟩
theorem Oth.setCells {B F gR gS : Nat} {a : World} (hB : B ≤ gR) : ∀ (vs : List Value) (o : Nat) (b : World), Oth B F gR gS a b → Oth B F gR gS a (b.setCells gR o vs)
  | [], _, _, h => h
  | v :: r, o, b, h => Oth.setCells hB r (o + 1) _ (h.set (p := ⟨gR, o, none⟩) hB (Or.inr (Or.inl rfl)) v)
theorem Ok.place {w : World} {F : Nat} {f : Fr} {r s : List Int} (h : Ok w F f r s) (n p t d l : Int) :
    Ok (((((w.setCell ⟨F, 2, none⟩ (.int .i64 n)).setCell ⟨F, 0, none⟩ (.int .i64 p)).setCell ⟨F, 3, none⟩ (.int .i64 t)).setCell ⟨F, 4, none⟩ (.int .i64 d)).setCell ⟨F, 5, none⟩ (.int .i64 l)) F { f with d := n, p := p, t := t, s := d, l := l } r s :=
  ⟨by have := blk_set (blk_set (blk_set (blk_set (blk_set h.hF 2 (.int .i64 n)) 0 (.int .i64 p)) 3 (.int .i64 t)) 4 (.int .i64 d)) 5 (.int .i64 l); simpa [frC] using this,
   ((((h.hr.other h.fr _).other h.fr _).other h.fr _).other h.fr _).other h.fr _, ((((h.hs.other h.fs _).other h.fs _).other h.fs _).other h.fs _).other h.fs _, h.nr, h.ns, h.aS, h.fr, h.fs, h.rs⟩
theorem infoOne : (Tryz.prog.info? 2).map (·.size) = some 1 := by kernel_rfl
set_option maxHeartbeats 4000000 in
set_option maxRecDepth 100000 in
theorem enterI (B F : Nat) (f : Fr) (r s : List Int) (w : World) (h : Ok w F f r s) (hB : B ≤ w.heap.size) (bF : B ≤ F) (bR : B ≤ f.gR) (hn : 13 ≤ f.nr) (n a0 a1 a2 a3 a4 a5 a6 a7 a8 a9 a10 a11 a12 : Int) :
    Calls Tryz.prog 106 #[.pointer (some ⟨F, 0, none⟩), .int .i64 n, .agg #[.int .i64 a0, .int .i64 a1, .int .i64 a2, .int .i64 a3, .int .i64 a4, .int .i64 a5, .int .i64 a6, .int .i64 a7, .int .i64 a8, .int .i64 a9, .int .i64 a10, .int .i64 a11, .int .i64 a12]] w fun e w' => (∃ v, e = .returned v) ∧ Ok w' F { f with d := n, p := a10, t := a0, s := a3, l := a4 } (over r [a0, a1, a2, a3, a4, a5, a6, a7, a8, a9, a10, a11, a12]) s ∧ Oth B F f.gR f.gS w w' := by
  have H := Hid.mk h
  have y0 := blk_cell h.hF 0
  have y2 := blk_cell h.hF 2
  have y3 := blk_cell h.hF 3
  have y4 := blk_cell h.hF 4
  have y5 := blk_cell h.hF 5
  have y7 := blk_cell h.hF 7
  have z0 := blk_unfrozen h.hF 0
  have z2 := blk_unfrozen h.hF 2
  have z3 := blk_unfrozen h.hF 3
  have z4 := blk_unfrozen h.hF 4
  have z5 := blk_unfrozen h.hF 5
  simp only [frC, List.getElem?_toArray, List.getElem?_cons_zero, List.getElem?_cons_succ] at y0 y2 y3 y4 y5 y7
  have gF := blk_lt h.hF
  clear h
  go_enter Tryz.func106, Tryz.ntmps106
  go_upto_region 3 with fail
  obtain ⟨W, hW⟩ : ∃ W, W = (((((w.setCell ⟨F, 2, none⟩ (.int .i64 n)).setCell ⟨F, 0, none⟩ (.int .i64 a10)).setCell ⟨F, 3, none⟩ (.int .i64 a0)).setCell ⟨F, 4, none⟩ (.int .i64 a3)).setCell ⟨F, 5, none⟩ (.int .i64 a4)).alloc (.cells #[.int .i64 a0, .int .i64 a1, .int .i64 a2, .int .i64 a3, .int .i64 a4, .int .i64 a5, .int .i64 a6, .int .i64 a7, .int .i64 a8, .int .i64 a9, .int .i64 a10, .int .i64 a11, .int .i64 a12] 156) := ⟨_, rfl⟩
  rw [← hW]
  have HO : Hid (Ok W F { f with d := n, p := a10, t := a0, s := a3, l := a4 } r s) := by unfold Hid; rw [hW]; exact (H.out.place n a10 a0 a3 a4).below (by go_grown)
  have HT : Hid (Oth B F f.gR f.gS w W) := by
    unfold Hid
    rw [hW]
    exact ((((((Oth.refl B F f.gR f.gS w).set (p := ⟨F, 2, none⟩) bF (Or.inl rfl) _).set (p := ⟨F, 0, none⟩) bF (Or.inl rfl) _).set (p := ⟨F, 3, none⟩) bF (Or.inl rfl) _).set (p := ⟨F, 4, none⟩) bF (Or.inl rfl) _).set (p := ⟨F, 5, none⟩) bF (Or.inl rfl) _).trans (Oth.of_below (by go_grown) (by simp only [size_set]; exact hB))
  have KA : Hid (W.heap[w.heap.size]? = some (.cells #[.int .i64 a0, .int .i64 a1, .int .i64 a2, .int .i64 a3, .int .i64 a4, .int .i64 a5, .int .i64 a6, .int .i64 a7, .int .i64 a8, .int .i64 a9, .int .i64 a10, .int .i64 a11, .int .i64 a12] 156)) := by
    have := blk_new (((((w.setCell ⟨F, 2, none⟩ (.int .i64 n)).setCell ⟨F, 0, none⟩ (.int .i64 a10)).setCell ⟨F, 3, none⟩ (.int .i64 a0)).setCell ⟨F, 4, none⟩ (.int .i64 a3)).setCell ⟨F, 5, none⟩ (.int .i64 a4)) (.cells #[.int .i64 a0, .int .i64 a1, .int .i64 a2, .int .i64 a3, .int .i64 a4, .int .i64 a5, .int .i64 a6, .int .i64 a7, .int .i64 a8, .int .i64 a9, .int .i64 a10, .int .i64 a11, .int .i64 a12] 156)
    simp only [size_set] at this
    rw [← hW] at this
    exact this
  have hBW : Hid (B ≤ W.heap.size) := by unfold Hid; rw [hW]; simp only [World.size_alloc, size_set]; omega
  clear hW y0 y2 y3 y4 y5 y7 z0 z2 z3 z4 z5
  have y7 := blk_cell HO.out.hF 7
  simp only [frC, List.getElem?_toArray, List.getElem?_cons_zero, List.getElem?_cons_succ] at y7
  have k0 := blk_cell KA.out 0
  simp only [frC, List.getElem?_toArray, List.getElem?_cons_zero, List.getElem?_cons_succ] at k0
  go_still_tail 6, (by kernel_rfl)
  clear y7 k0
  refine Lib.wpList_copy_run _ rfl _ _ _ _ rfl _ _ rfl rfl (run_copy_cells _ _ _ _ 2 f.gR 0 f.nr f.cR ⟨w.heap.size, 0, none⟩ 13 13 (icells [a0, a1, a2, a3, a4, a5, a6, a7, a8, a9, a10, a11, a12]) Tryz.underlying32 infoOne ?_ ?_ ?_ ?_ (icells_one _)) ?_
  · show 13 = Nat.min 13 f.nr
    exact (Nat.min_eq_left hn).symm
  · intro j u hj
    rw [Addr.add_mid, Nat.zero_add]
    exact (blk_cell KA.out j).trans (by simpa [icells] using hj)
  · intro j hj
    have hj' : j < 13 := hj
    have := (HO.out.hr j (by rw [← H.out.nr]; omega)).1
    rw [Nat.zero_add]
    show (W.cell? ⟨f.gR, j, none⟩).isSome = true
    rw [this]; rfl
  · intro j hj
    have hj' : j < 13 := hj
    rw [Nat.zero_add]
    exact (HO.out.hr j (by rw [← H.out.nr]; omega)).2
  go_wp2
  go_end0
  refine ⟨⟨_, rfl⟩, ?_, ?_⟩
  · exact (HO.out.below (w' := W.drew) (Below.refl _ _).drew).over [a0, a1, a2, a3, a4, a5, a6, a7, a8, a9, a10, a11, a12] (by show 13 ≤ _; rw [← H.out.nr]; exact hn)
  · exact Oth.setCells bR _ 0 _ (HT.out.trans (Oth.of_below (b := W.drew) (Below.refl _ _).drew hBW.out))
end Go.Proofs.YtgooegcmgejfpaaGreatDoor.Mac
