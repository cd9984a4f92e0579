import Derived.Test.YtgooegcmgejfpaaGreatDoorGr17
import Derived.Deep.RegionHeld3
import Derived.StillTailTactics
import Derived.Deep.DeepCutAuto
namespace Go.Proofs.YtgooegcmgejfpaaGreatDoor.Mac
open Go Go.RowKit Go.Proofs.YtgooegcmgejfpaaGreatDoor.Mem
set_option linter.unusedVariables false
set_option linter.unusedSimpArgs false
attribute [local go_sem ↓] Go.wp_at_zero Go.wp_at_succ

/-- The next instruction, as the frame has it. -/
def nxOf (F : Nat) (w : World) : Nat := match w.cell? ⟨F, 11, none⟩ with
  | some (.int _ z) => z.toNat
  | _ => 0
/-- Between two instructions. -/
def Inv (w0 w : World) (F : Nat) (f : Fr) (r s : List Int) (mp : Mp) (E : En) (R S : Int) (B : Nat → Is) (n : Nat) (wr : World) : Prop :=
  ∃ (k : Nat) (u : Int) (r' s' : List Int), k ≤ n ∧ Run w0 wr F { f with nx := (k : Int), u := u } r' s' mp E R S ∧ Oth w0.heap.size F f.gR f.gS w wr ∧
    ((u = -1 ∧ ∃ fl, n - k ≤ fl ∧ exec E B n n 0 r s = exec E B n fl k r' s') ∨ (1 ≤ u ∧ exec E B n n 0 r s = (r', s', u)))
/-- What is left behind a block. -/
def RunPost (w0 w : World) (F : Nat) (f : Fr) (mp : Mp) (E : En) (R S : Int) (out : List Int × List Int × Int) (e : Ending) (w' : World) : Prop :=
  (∃ v, e = .returned v) ∧ Oth w0.heap.size F f.gR f.gS w w' ∧
    ((out.2.2 = -1 ∧ ∃ nx, Run w0 w' F { f with nx := nx, u := -1 } out.1 out.2.1 mp E R S) ∨ (1 ≤ out.2.2 ∧ ∃ nx, w'.heap[F]? = some (.cells (failC f.p out.2.2 f.M f.q nx) 93)))

theorem inv_step {w0 w wr W w' : World} {F : Nat} {f : Fr} {r s r1 s1 : List Int} {mp : Mp} {E : En} {R S : Int} {B : Nat → Is} {n k fl : Nat}
    (h : ∃ (k' : Nat) (u : Int) (r' s' : List Int), k < k' ∧ k' ≤ n ∧ Run w0 w' F { f with q := E.q, nx := (k' : Int), u := u } r' s' mp E R S ∧ Oth w0.heap.size F f.gR f.gS W w' ∧
      ((u = -1 ∧ ∀ fl, exec E B n (fl + 1) k r1 s1 = exec E B n fl k' r' s') ∨ (1 ≤ u ∧ ∀ fl, exec E B n (fl + 1) k r1 s1 = (r', s', u))))
    (ht : Oth w0.heap.size F f.gR f.gS w W) (he : exec E B n n 0 r s = exec E B n fl k r1 s1) (hfl : n - k ≤ fl) (hlt : k < n) (hm : nxOf F wr = k) :
    Hid (Inv w0 w F { f with q := E.q } r s mp E R S B n w') ∧ n - nxOf F w' < n - nxOf F wr := by
  obtain ⟨k', u, r', s', h1, h2, h3, h4, h5⟩ := h
  obtain ⟨fl', rfl⟩ : ∃ m, fl = m + 1 := ⟨fl - 1, by omega⟩
  have hx : nxOf F w' = k' := by
    have := blk_cell h3.ok.hF 11
    simp only [frC, List.getElem?_toArray, List.getElem?_cons_zero, List.getElem?_cons_succ] at this
    unfold nxOf
    rw [this]
    simp
  refine ⟨⟨k', u, r', s', h2, h3, ht.trans h4, ?_⟩, by omega⟩
  rcases h5 with ⟨e1, e2⟩ | ⟨e1, e2⟩
  · exact Or.inl ⟨e1, fl', by omega, he.trans (e2 fl')⟩
  · exact Or.inr ⟨e1, he.trans (e2 fl')⟩

set_option maxHeartbeats 16000000 in
set_option maxRecDepth 100000 in
/-- The program runs a block (from the request on). -/
theorem loopI (w0 w : World) (F : Nat) (f : Fr) (r s : List Int) (mp : Mp) (E : En) (R S : Int) (B : Nat → Is) (n cb : Nat) (bl : Option Addr) (hbl : SliceAt w0 bl n 4 (fun i => (B i).cells)) (hok : ∀ i, i < n → OkI R S i n (B i)) (hn : n ≤ 16384) (hM1 : mp.I.nV ≤ 64) (hM2 : mp.I.nQ ≤ 1000)
    (h0 : Ok w F f r s) (hbel : Below w0.heap.size w0 w) (bF : w0.heap.size ≤ F) (hMm : w.heap[f.M]? = some (.cells (mcC mp) 153)) (mF : f.M ≠ F) (hu : f.u = -1) (hq : E.q = reqOf mp.I f.d)
    (hrun : ∀ w', Ok w' F { f with q := E.q, nx := 0, u := -1 } r s → Oth w0.heap.size F f.gR f.gS w w' → Run w0 w' F { f with q := E.q, nx := 0, u := -1 } r s mp E R S) :
    Calls Tryz.prog 108 #[.pointer (some ⟨F, 0, none⟩), .slice bl n cb] w (RunPost w0 w F { f with q := E.q } mp E R S (exec E B n n 0 r s)) := by
  have H0 := Hid.mk h0
  have HRUN := Hid.mk hrun
  have HBL := Hid.mk hbl
  have HOK := Hid.mk hok
  have HMM := Hid.mk hMm
  have HBEL := Hid.mk hbel
  have HU := Hid.mk hu
  have HQ := Hid.mk hq
  have y9 := blk_cell h0.hF 9
  have y2 := blk_cell h0.hF 2
  have n0 := blk_cell hMm 0
  have n1 := blk_cell hMm 1
  have n2 := blk_cell hMm 2
  have n3 := blk_cell hMm 3
  simp only [frC, mcC, List.getElem?_toArray, List.getElem?_cons_zero, List.getElem?_cons_succ] at y9 y2 n0 n1 n2 n3
  have hB := hbel.size
  clear h0 hrun hbl hok hMm hbel hu hq
  go_enter Tryz.func108, Tryz.ntmps108
  go_upto_region 0 with fail
  go_region_held3 (fun w' => w'.cell? ⟨F, 9, none⟩ = some (.pointer (some ⟨f.M, 0, none⟩)) ∧ w'.cell? ⟨F, 2, none⟩ = some (.int .i64 f.d) ∧ w'.cell? ⟨f.M, 0, none⟩ = some (.slice mp.b1 mp.I.nV mp.d1) ∧ w'.cell? ⟨f.M, 1, none⟩ = some (.slice mp.b2 mp.I.nQ mp.d2) ∧ w'.cell? ⟨f.M, 2, none⟩ = some (.slice mp.b3 mp.I.nR mp.d3) ∧ w'.cell? ⟨f.M, 3, none⟩ = some (.int .i64 mp.v))
    (first | ((repeat' constructor) <;> first | exact cell_keep hb1 (by assumption) | exact (World.cell?_setCell_far _ _ _ _ (Ne.symm mF)).trans (by assumption) | exact (World.cell?_setCell_other _ _ _ _ (by simp)).trans (by assumption)) | go_keep)
    ((go_at_call 164; refine (requestI _ _ _ _ _ _ mp.I mp.v f.d _ hM1 hM2).mono ?_; rintro e w1 ⟨rfl, hb1⟩; have y9' := cell_keep (W := w.drew) hb1 y9; have y2' := cell_keep (W := w.drew) hb1 y2; have n0' := cell_keep (W := w.drew) hb1 n0; have n1' := cell_keep (W := w.drew) hb1 n1; have n2' := cell_keep (W := w.drew) hb1 n2; have n3' := cell_keep (W := w.drew) hb1 n3; have O1 := Hid.mk ((H0.out.below (w' := w.drew) (Below.refl _ _).drew).below hb1); have y10 := blk_cell O1.out.hF 10; have z10 := blk_unfrozen O1.out.hF 10; simp only [frC, mcC, List.getElem?_toArray, List.getElem?_cons_zero, List.getElem?_cons_succ] at y10))
  have T1 := Hid.mk ((Oth.of_below (F := F) (gR := f.gR) (gS := f.gS) (b := w.drew) (Below.refl _ _).drew hB).trans (Oth.of_below hb1 hB))
  clear hb1 y9 y2 n0 n1 n2 n3 y9' y2' n0' n1' n2' n3' y10 z10
  rw [← HQ.out]
  obtain ⟨Y, hY⟩ : ∃ Y, Y = w1.setCell ⟨F, 10, none⟩ (.int .i64 E.q) := ⟨_, rfl⟩
  rw [← hY]
  have O2 : Hid (Ok Y F { f with q := E.q } r s) := by unfold Hid; rw [hY]; exact O1.out.request E.q
  have T2 : Hid (Oth w0.heap.size F f.gR f.gS w Y) := by unfold Hid; rw [hY]; exact T1.out.set bF (Or.inl rfl) _
  clear hY O1 T1
  have y11 := blk_cell O2.out.hF 11
  have z11 := blk_unfrozen O2.out.hF 11
  simp only [frC, mcC, List.getElem?_toArray, List.getElem?_cons_zero, List.getElem?_cons_succ] at y11
  go_wp2_with fail
  clear y11 z11
  obtain ⟨X, hX⟩ : ∃ X, X = Y.setCell ⟨F, 11, none⟩ (.int .i64 0) := ⟨_, rfl⟩
  rw [← hX]
  have HX : Hid (Inv w0 w F { f with q := E.q } r s mp E R S B n X) := by
    have O3 : Ok X F { f with q := E.q, nx := 0, u := -1 } r s := by
      have := O2.out.next 0
      rw [← hX] at this
      have e1 : ({ f with q := E.q, nx := 0, u := -1 } : Fr) = { f with q := E.q, nx := 0 } := by rw [← HU.out]
      rw [e1]
      exact this
    have T3 : Oth w0.heap.size F f.gR f.gS w X := by rw [hX]; exact T2.out.set bF (Or.inl rfl) _
    exact ⟨0, -1, r, s, Nat.zero_le _, HRUN.out X O3 T3, T3, Or.inl ⟨rfl, n, Nat.le_refl _, rfl⟩⟩
  clear hX O2 T2 HRUN
  go_loopw [] (fun wr => Hid (Inv w0 w F { f with q := E.q } r s mp E R S B n wr)) (fun wr => n - nxOf F wr)
  case atStart => exact HX
  case round =>
    obtain ⟨k, u, r1, s1, hk, hR, hT, hex⟩ := hrel.out
    clear hrel
    have RR := Hid.mk hR
    have TT := Hid.mk hT
    have y11 := blk_cell hR.ok.hF 11
    have y1 := blk_cell hR.ok.hF 1
    simp only [frC, mcC, List.getElem?_toArray, List.getElem?_cons_zero, List.getElem?_cons_succ] at y11 y1
    have hFl := blk_lt hR.ok.hF
    have hm : Hid (nxOf F wr = k) := by unfold Hid nxOf; rw [y11]; simp
    clear hR hT
    rcases hex with ⟨rfl, fl, hfl, he⟩ | ⟨hu1, he⟩
    · by_cases hlt : k < n
      · have hoi := HOK.out k hlt
        obtain ⟨p, a, b, c, hB⟩ : ∃ p a b c, B k = ⟨p, a, b, c⟩ := ⟨_, _, _, _, rfl⟩
        rw [hB] at hoi
        have p0 : 1 ≤ p := hoi.p0
        have p1 : p ≤ 20 := hoi.p1
        obtain ⟨pn, rfl⟩ : ∃ m : Nat, p = (m : Int) := ⟨p.toNat, by omega⟩
        rcases HBL.out.below RR.out.bel with h0' | ⟨gb, ob, rfl, hs⟩
        · omega
        have hcs : wr.rangeAt gb (ob + k * 4) (B k).cells := hs k hlt
        rw [hB] at hcs
        obtain ⟨i0, i1, i2, i3⟩ := Is.at hcs
        have gi := lt_of_cell i0
        have HOI := Hid.mk hoi
        have HE := Hid.mk he
        have HBK := Hid.mk hB
        have k0 : (0 : Int) ≤ (k : Int) := by omega
        have k1 : (k : Int) < (n : Int) := by omega
        have kw : IntKind.i64.wrap ((k : Int) + 1) = ((k + 1 : Nat) : Int) := by rw [IntKind.wrap_i64]; omega
        have z11 := blk_unfrozen RR.out.ok.hF 11
        have hF1 : F < wr.heap.size + 1 := by omega
        clear hs hcs hoi he hB
        go_wp2_with fail
        clear i0 i1 i2 i3 y11 y1 z11
        obtain ⟨Y, hY⟩ : ∃ Y, Y = (wr.setCell ⟨F, 11, none⟩ (.int .i64 ((k : Int) + 1))).alloc (.cells #[.int .i64 (pn : Int), .int .i64 a, .int .i64 b, .int .i64 c] 133) := ⟨_, rfl⟩
        rw [← hY]
        have TY : Hid (Oth w0.heap.size F f.gR f.gS wr Y) := by
          unfold Hid
          rw [hY]
          exact ((Oth.refl w0.heap.size F f.gR f.gS wr).set (p := ⟨F, 11, none⟩) bF (Or.inl rfl) _).trans (Oth.of_below (by go_grown) (by rw [size_set]; exact RR.out.hB))
        have RY : Hid (Run w0 Y F { f with q := E.q, nx := (k : Int) + 1, u := -1 } r1 s1 mp E R S) := by
          refine RR.out.step (nx := (k : Int) + 1) (u := -1) ?_ TY.out RR.out.Br RR.out.Bs
          rw [hY]
          exact (RR.out.ok.next ((k : Int) + 1)).below (by go_grown)
        have KX : Hid (Y.heap[wr.heap.size]? = some (.cells #[.int .i64 (pn : Int), .int .i64 a, .int .i64 b, .int .i64 c] 133)) := by
          have := blk_new (wr.setCell ⟨F, 11, none⟩ (.int .i64 ((k : Int) + 1))) (.cells #[.int .i64 (pn : Int), .int .i64 a, .int .i64 b, .int .i64 c] 133)
          rw [size_set, ← hY] at this
          exact this
        clear hY
        have v9 := blk_cell RY.out.ok.hF 9
        have x0 := blk_cell KX.out 0
        have x1 := blk_cell KX.out 1
        have x2 := blk_cell KX.out 2
        have x3 := blk_cell KX.out 3
        simp only [frC, mcC, List.getElem?_toArray, List.getElem?_cons_zero, List.getElem?_cons_succ] at v9 x0 x1 x2 x3
        have q0 : (0 : Int) ≤ (pn : Int) := by omega
        have q1 : (pn : Int) < 21 := by omega
        obtain ⟨V, hV⟩ : ∃ V, (mcC mp)[9 + pn]? = some V := ⟨(mcC mp)[9 + pn]'(by simp [mcC]; omega), Array.getElem?_eq_getElem _⟩
        have nV := blk_cell RY.out.hM (9 + pn)
        rw [hV] at nV
        have HV := Hid.mk hV
        clear hV kw
        go_still_tail 12, (by kernel_rfl)
        clear v9 x0 x1 x2 x3 nV
        have RD : Hid (Run w0 Y.drew F { f with q := E.q, nx := (k : Int) + 1, u := -1 } r1 s1 mp E R S) := by
          have h := RY.out
          exact h.step (nx := (k : Int) + 1) (u := -1) (h.ok.below (Below.refl _ _).drew) (Oth.of_below (b := Y.drew) (Below.refl _ _).drew h.hB) h.Br h.Bs
        have TD : Hid (Oth w0.heap.size F f.gR f.gS w Y.drew) := (TT.out.trans TY.out).trans (Oth.of_below (b := Y.drew) (Below.refl _ _).drew RY.out.hB)
        clear RY TY KX
        have hpn : pn = 1 ∨ pn = 2 ∨ pn = 3 ∨ pn = 4 ∨ pn = 5 ∨ pn = 6 ∨ pn = 7 ∨ pn = 8 ∨ pn = 9 ∨ pn = 10 ∨ pn = 11 ∨ pn = 12 ∨ pn = 13 ∨ pn = 14 ∨ pn = 15 ∨ pn = 16 ∨ pn = 17 ∨ pn = 18 ∨ pn = 19 ∨ pn = 20 := by omega
        rcases hpn with rfl | rfl | rfl | rfl | rfl | rfl | rfl | rfl | rfl | rfl | rfl | rfl | rfl | rfl | rfl | rfl | rfl | rfl | rfl | rfl
        all_goals (have hV' := HV.out; simp only [mcC, fnV, fnC, Nat.reduceAdd, List.getElem?_toArray, List.getElem?_cons_zero, List.getElem?_cons_succ, Option.some.injEq] at hV'; subst hV')
        all_goals clear HV
        all_goals go_wp2_with fail
        · refine (st1 w0 _ F _ r1 s1 mp E R S B n k RD.out hlt (by show (k : Int) + 1 = _; omega) rfl a b c HBK.out HOI.out).mono ?_
          intro e w' hst
          obtain ⟨⟨v, rfl⟩, hst'⟩ := hst
          have HC := Hid.mk (inv_step hst' TD.out HE.out hfl hlt hm.out)
          clear hst'
          go_wp2
          exact ⟨HC.out.1, HC.out.2⟩
        · refine (st2 w0 _ F _ r1 s1 mp E R S B n k RD.out hlt (by show (k : Int) + 1 = _; omega) rfl a b c HBK.out HOI.out).mono ?_
          intro e w' hst
          obtain ⟨⟨v, rfl⟩, hst'⟩ := hst
          have HC := Hid.mk (inv_step hst' TD.out HE.out hfl hlt hm.out)
          clear hst'
          go_wp2
          exact ⟨HC.out.1, HC.out.2⟩
        · refine (st3 w0 _ F _ r1 s1 mp E R S B n k RD.out hlt (by show (k : Int) + 1 = _; omega) rfl a b c HBK.out HOI.out).mono ?_
          intro e w' hst
          obtain ⟨⟨v, rfl⟩, hst'⟩ := hst
          have HC := Hid.mk (inv_step hst' TD.out HE.out hfl hlt hm.out)
          clear hst'
          go_wp2
          exact ⟨HC.out.1, HC.out.2⟩
        · refine (st4 w0 _ F _ r1 s1 mp E R S B n k RD.out hlt (by show (k : Int) + 1 = _; omega) rfl a b c HBK.out HOI.out).mono ?_
          intro e w' hst
          obtain ⟨⟨v, rfl⟩, hst'⟩ := hst
          have HC := Hid.mk (inv_step hst' TD.out HE.out hfl hlt hm.out)
          clear hst'
          go_wp2
          exact ⟨HC.out.1, HC.out.2⟩
        · refine (st5 w0 _ F _ r1 s1 mp E R S B n k RD.out hlt (by show (k : Int) + 1 = _; omega) rfl a b c HBK.out HOI.out).mono ?_
          intro e w' hst
          obtain ⟨⟨v, rfl⟩, hst'⟩ := hst
          have HC := Hid.mk (inv_step hst' TD.out HE.out hfl hlt hm.out)
          clear hst'
          go_wp2
          exact ⟨HC.out.1, HC.out.2⟩
        · refine (st6 w0 _ F _ r1 s1 mp E R S B n k RD.out hlt (by show (k : Int) + 1 = _; omega) rfl a b c HBK.out HOI.out).mono ?_
          intro e w' hst
          obtain ⟨⟨v, rfl⟩, hst'⟩ := hst
          have HC := Hid.mk (inv_step hst' TD.out HE.out hfl hlt hm.out)
          clear hst'
          go_wp2
          exact ⟨HC.out.1, HC.out.2⟩
        · refine (st7 w0 _ F _ r1 s1 mp E R S B n k RD.out hlt (by show (k : Int) + 1 = _; omega) rfl a b c HBK.out HOI.out).mono ?_
          intro e w' hst
          obtain ⟨⟨v, rfl⟩, hst'⟩ := hst
          have HC := Hid.mk (inv_step hst' TD.out HE.out hfl hlt hm.out)
          clear hst'
          go_wp2
          exact ⟨HC.out.1, HC.out.2⟩
        · refine (st8 w0 _ F _ r1 s1 mp E R S B n k RD.out hlt (by show (k : Int) + 1 = _; omega) rfl a b c HBK.out HOI.out).mono ?_
          intro e w' hst
          obtain ⟨⟨v, rfl⟩, hst'⟩ := hst
          have HC := Hid.mk (inv_step hst' TD.out HE.out hfl hlt hm.out)
          clear hst'
          go_wp2
          exact ⟨HC.out.1, HC.out.2⟩
        · refine (st9 w0 _ F _ r1 s1 mp E R S B n k RD.out hlt (by show (k : Int) + 1 = _; omega) rfl a b c HBK.out HOI.out).mono ?_
          intro e w' hst
          obtain ⟨⟨v, rfl⟩, hst'⟩ := hst
          have HC := Hid.mk (inv_step hst' TD.out HE.out hfl hlt hm.out)
          clear hst'
          go_wp2
          exact ⟨HC.out.1, HC.out.2⟩
        · refine (st10 w0 _ F _ r1 s1 mp E R S B n k RD.out hlt (by show (k : Int) + 1 = _; omega) rfl a b c HBK.out HOI.out).mono ?_
          intro e w' hst
          obtain ⟨⟨v, rfl⟩, hst'⟩ := hst
          have HC := Hid.mk (inv_step hst' TD.out HE.out hfl hlt hm.out)
          clear hst'
          go_wp2
          exact ⟨HC.out.1, HC.out.2⟩
        · refine (st11 w0 _ F _ r1 s1 mp E R S B n k RD.out hlt (by show (k : Int) + 1 = _; omega) rfl a b c HBK.out HOI.out).mono ?_
          intro e w' hst
          obtain ⟨⟨v, rfl⟩, hst'⟩ := hst
          have HC := Hid.mk (inv_step hst' TD.out HE.out hfl hlt hm.out)
          clear hst'
          go_wp2
          exact ⟨HC.out.1, HC.out.2⟩
        · refine (st12 w0 _ F _ r1 s1 mp E R S B n k RD.out hlt (by show (k : Int) + 1 = _; omega) rfl a b c HBK.out HOI.out).mono ?_
          intro e w' hst
          obtain ⟨⟨v, rfl⟩, hst'⟩ := hst
          have HC := Hid.mk (inv_step hst' TD.out HE.out hfl hlt hm.out)
          clear hst'
          go_wp2
          exact ⟨HC.out.1, HC.out.2⟩
        · refine (st13 w0 _ F _ r1 s1 mp E R S B n k RD.out hlt (by show (k : Int) + 1 = _; omega) rfl a b c HBK.out HOI.out).mono ?_
          intro e w' hst
          obtain ⟨⟨v, rfl⟩, hst'⟩ := hst
          have HC := Hid.mk (inv_step hst' TD.out HE.out hfl hlt hm.out)
          clear hst'
          go_wp2
          exact ⟨HC.out.1, HC.out.2⟩
        · refine (st14 w0 _ F _ r1 s1 mp E R S B n k RD.out hlt (by show (k : Int) + 1 = _; omega) rfl a b c HBK.out HOI.out).mono ?_
          intro e w' hst
          obtain ⟨⟨v, rfl⟩, hst'⟩ := hst
          have HC := Hid.mk (inv_step hst' TD.out HE.out hfl hlt hm.out)
          clear hst'
          go_wp2
          exact ⟨HC.out.1, HC.out.2⟩
        · refine (st15 w0 _ F _ r1 s1 mp E R S B n k RD.out hlt (by show (k : Int) + 1 = _; omega) rfl a b c HBK.out HOI.out).mono ?_
          intro e w' hst
          obtain ⟨⟨v, rfl⟩, hst'⟩ := hst
          have HC := Hid.mk (inv_step hst' TD.out HE.out hfl hlt hm.out)
          clear hst'
          go_wp2
          exact ⟨HC.out.1, HC.out.2⟩
        · refine (st16 w0 _ F _ r1 s1 mp E R S B n k RD.out hlt (by show (k : Int) + 1 = _; omega) rfl a b c HBK.out HOI.out).mono ?_
          intro e w' hst
          obtain ⟨⟨v, rfl⟩, hst'⟩ := hst
          have HC := Hid.mk (inv_step hst' TD.out HE.out hfl hlt hm.out)
          clear hst'
          go_wp2
          exact ⟨HC.out.1, HC.out.2⟩
        · refine (st17 w0 _ F _ r1 s1 mp E R S B n k RD.out hlt (by show (k : Int) + 1 = _; omega) rfl a b c HBK.out HOI.out).mono ?_
          intro e w' hst
          obtain ⟨⟨v, rfl⟩, hst'⟩ := hst
          have HC := Hid.mk (inv_step hst' TD.out HE.out hfl hlt hm.out)
          clear hst'
          go_wp2
          exact ⟨HC.out.1, HC.out.2⟩
        · refine (st18 w0 _ F _ r1 s1 mp E R S B n k RD.out hlt (by show (k : Int) + 1 = _; omega) rfl a b c HBK.out HOI.out).mono ?_
          intro e w' hst
          obtain ⟨⟨v, rfl⟩, hst'⟩ := hst
          have HC := Hid.mk (inv_step hst' TD.out HE.out hfl hlt hm.out)
          clear hst'
          go_wp2
          exact ⟨HC.out.1, HC.out.2⟩
        · refine (st19 w0 _ F _ r1 s1 mp E R S B n k RD.out hlt (by show (k : Int) + 1 = _; omega) rfl a b c HBK.out HOI.out).mono ?_
          intro e w' hst
          obtain ⟨⟨v, rfl⟩, hst'⟩ := hst
          have HC := Hid.mk (inv_step hst' TD.out HE.out hfl hlt hm.out)
          clear hst'
          go_wp2
          exact ⟨HC.out.1, HC.out.2⟩
        · refine (st20 w0 _ F _ r1 s1 mp E R S B n k RD.out hlt (by show (k : Int) + 1 = _; omega) rfl a b c HBK.out HOI.out).mono ?_
          intro e w' hst
          obtain ⟨⟨v, rfl⟩, hst'⟩ := hst
          have HC := Hid.mk (inv_step hst' TD.out HE.out hfl hlt hm.out)
          clear hst'
          go_wp2
          exact ⟨HC.out.1, HC.out.2⟩
      · have k1 : decide ((k : Int) < (n : Int)) = false := by simp; omega
        have hout : exec E B n n 0 r s = (r1, s1, -1) := by rw [he, exec_end (by omega)]
        have HOUT := Hid.mk hout
        clear he hout
        go_wp2
        go_end0
        rw [HOUT.out]
        exact ⟨⟨_, rfl⟩, TT.out, Or.inl ⟨rfl, (k : Int), RR.out⟩⟩
    · have HE := Hid.mk he
      clear he
      have u1 : (u == -1) = false := by simp; omega
      have u2 : (u != -1) = true := by simp; omega
      have HF := Hid.mk RR.out.ok.hF
      by_cases hlt : k < n
      · have k1 : (k : Int) < (n : Int) := by omega
        go_wp2_with fail
        refine (failI w0.heap.size F _ u _ HF.out bF f.gR f.gS).mono ?_
        rintro e w' ⟨⟨v, rfl⟩, hf', ht'⟩
        have HF' := Hid.mk hf'
        have HT' := Hid.mk (TT.out.trans ht')
        clear hf' ht'
        go_wp2
        go_end0
        rw [HE.out]
        exact ⟨⟨_, rfl⟩, HT'.out, Or.inr ⟨hu1, (k : Int), HF'.out⟩⟩
      · have k1 : decide ((k : Int) < (n : Int)) = false := by simp; omega
        go_wp2_with fail
        refine (failI w0.heap.size F _ u _ HF.out bF f.gR f.gS).mono ?_
        rintro e w' ⟨⟨v, rfl⟩, hf', ht'⟩
        have HF' := Hid.mk hf'
        have HT' := Hid.mk (TT.out.trans ht')
        clear hf' ht'
        go_wp2
        go_end0
        rw [HE.out]
        exact ⟨⟨_, rfl⟩, HT'.out, Or.inr ⟨hu1, (k : Int), HF'.out⟩⟩
end Go.Proofs.YtgooegcmgejfpaaGreatDoor.Mac
