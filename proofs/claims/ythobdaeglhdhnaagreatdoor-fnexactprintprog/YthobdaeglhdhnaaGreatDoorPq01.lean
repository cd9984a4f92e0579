import Derived.Test.YthobdaeglhdhnaaGreatDoorPp47
import Derived.Deep.DrawnRows
namespace Go.Proofs.YthobdaeglhdhnaaGreatDoor.LawPP
open Go Go.RowKit Go.Sort Go.Proofs.YthobdaeglhdhnaaGreatDoor.Mem Go.Proofs.YthobdaeglhdhnaaGreatDoor.Syn Go.Proofs.YthobdaeglhdhnaaGreatDoor.OpenP Go.Proofs.YthobdaeglhdhnaaGreatDoor.LawP Go.Proofs.YthobdaeglhdhnaaGreatDoor.MarksB
set_option linter.unusedVariables false
attribute [local go_sem ↓] Go.wp_at_zero Go.wp_at_succ

theorem prnT_len (P : Pr) (L : Nat → Lo) : (prnT P).length ≤ 100000000 := by
  unfold prnT
  cases hg : prB P with
  | false => simp
  | true =>
    simp only [if_true]
    simp only [prB, Bool.and_eq_true, decide_eq_true_eq] at hg
    obtain ⟨g1, g2, g3⟩ := hg
    have hI : ∀ k, k < P.n → itB (P.I k) = true ∧ (P.I k).nE ≤ 2000 ∧ (P.I k).nF ≤ 2000 := fun k hk => ⟨allB_at g3 hk, by have := cnt_at P hk; omega, by have := cnt_at P hk; omega⟩
    have hpl := prog_len (P := P) (k := P.n) fun j hj => (itemAllI (P.I j) (L j) (hI j hj).1 (hI j hj).2.1 (hI j hj).2.2).1
    omega
theorem kept_at {lo hi b t : Nat} {w w' : World} {a : Option Addr} {bs : List UInt8} (h : At b t w a bs) (hm : Mid lo hi w w') (hb : hi ≤ b) (ht : t ≤ w.heap.size) : At b t w' a bs := fun j hj => by
  obtain ⟨g, e, h1, h2, h3, h4⟩ := h j hj
  have hbk := hm.2 g (by omega) (by omega)
  exact ⟨g, e, h1, h2, by rw [World.cell?_of_block (a := ⟨g, j, none⟩) hbk]; exact h3, by rw [World.frozen?_of_block (a := ⟨g, j, none⟩) hbk]; exact h4⟩
/-- What both sides answer. -/
def Ans (P : Pr) (N : Nat) (w : World) (e : Ending) (w' : World) : Prop := ∃ a c, e = .returned (.slice a N c) ∧ At w.heap.size w'.heap.size w' a (prnT P) ∧ Below w.heap.size w w'
theorem ansS (P : Pr) (a : Option Addr) (c : Nat) (L : Nat → Lo) (N : Nat) (w : World) (hN : N = (prnT P).length) (h : PrAt w a P L) (hn : P.n ≤ 1048576) (hc : cnt P P.n ≤ 1048576) : Calls Tryz.prog 5 #[.agg #[.slice a P.n c]] w (Ans P N w) := by
  refine (printPS xt P a c L w h hn hc).mono ?_
  rintro e w1 ⟨v, rfl, ho, hb⟩
  obtain ⟨a', c', rfl, hat⟩ := MarksB.Own.lies ho
  exact ⟨a', c', by rw [hN], hat, hb⟩
theorem ansI (P : Pr) (a : Option Addr) (c : Nat) (L : Nat → Lo) (N : Nat) (w : World) (hN : N = (prnT P).length) (h : PrAt w a P L) (hn : P.n ≤ 1048576) (hc : cnt P P.n ≤ 1048576) (hT : Tabs w) (hS : TabS w) (hp : Lib.TabIs Tryz.prog w "internal/strconv.uint64pow10" .u64 Lib.pow10Tab) : Calls Tryz.prog 7 #[.agg #[.slice a P.n c]] w (Ans P N w) := by
  refine (printPI P a c L w h hn hc hT hS hp).mono ?_
  rintro e w1 ⟨v, rfl, ho, hb⟩
  obtain ⟨a', c', rfl, hat⟩ := MarksB.Own.lies ho
  exact ⟨a', c', by rw [hN], hat, hb⟩
structure Tbs (w : World) : Prop where
  t : Tabs w
  s : TabS w
  p : Lib.TabIs Tryz.prog w "internal/strconv.uint64pow10" .u64 Lib.pow10Tab
theorem Tbs.below {w w' : World} (h : Tbs w) (hb : Below w.heap.size w w') : Tbs w' := ⟨h.t.below hb, h.s.below hb, (Lib.tabBelow_of_tabIs h.p) w' hb⟩

set_option maxHeartbeats 8000000 in
set_option maxRecDepth 100000 in
theorem law (P : Pr) (a : Option Addr) (c : Nat) (L : Nat → Lo) (w : World) (h : PrAt w a P L) (hbd : PrBd w P L) (hT : Tbs w) :
    Calls Tryz.prog 3 #[.agg #[.slice a P.n c]] w fun e w' => e = .returned (.bool true) ∧ Below w.heap.size w w' := by
  have H := Hid.mk h
  have HT := Hid.mk hT
  have HBD := Hid.mk hbd
  clear h hT hbd
  obtain ⟨N, hN0, hN1⟩ : ∃ N, Hid (N = (prnT P).length) ∧ N ≤ 100000000 := ⟨_, rfl, prnT_len P L⟩
  go_enter Tryz.func3, Tryz.ntmps3
  go_wp2_with fail
  have hb0 : Below w.heap.size w (w.alloc (.cells #[.slice a P.n c] 24)) := below_alloc' (Below.refl _ _) _
  refine (szProg P a c L _ (H.out.below hb0) ⟨HBD.out.n, fun k hk => ItOk.below (HBD.out.i k hk) hb0⟩).mono ?_
  rintro e w1 ⟨r, rfl, hr, hb1⟩
  have HB1 := Hid.mk (below_then hb0 hb1)
  have A0 := Hid.mk (blk_below (blk_new w _) hb1)
  clear hb1 hb0
  rcases hr with hr | ⟨r0, r1, m1, m2⟩
  · go_wp2
    go_ret
    exact ⟨rfl, HB1.out⟩
  have x0 := blk_cell A0.out 0
  simp only [List.getElem?_toArray, List.getElem?_cons_zero] at x0
  go_wp2_with fail
  clear x0
  refine (toProg P a c L _ (H.out.below HB1.out) m1 m2).mono ?_
  rintro e w2 ⟨L2, p2, rfl, hb2, hI2⟩
  have HB2 := Hid.mk (below_then HB1.out hb2)
  have A2 := Hid.mk (blk_below A0.out hb2)
  have HI2 := Hid.mk hI2
  clear hb2 hI2 HB1 A0
  go_wp2_with fail
  refine (ansS P p2 P.n L2 N _ hN0.out HI2.out.at m1 m2).mono ?_
  rintro e w3 ⟨f, fc, rfl, hf, hb3⟩
  have HB3 := Hid.mk (below_then HB2.out hb3)
  have A3 := Hid.mk (blk_below A2.out hb3)
  have zw := blk_lt A3.out
  have F3 := Hid.mk hf
  have lf : Hid (w.heap.size < w2.heap.size) := blk_lt A2.out
  clear hb3 hf HB2 A2 HI2
  have x0 := blk_cell A3.out 0
  simp only [List.getElem?_toArray, List.getElem?_cons_zero] at x0
  go_wp2_with fail
  clear x0
  refine (toProg P a c L _ (H.out.below HB3.out) m1 m2).mono ?_
  rintro e w4 ⟨L4, p4, rfl, hb4, hI4⟩
  have HB4 := Hid.mk (below_then HB3.out hb4)
  have A4 := Hid.mk (blk_below A3.out hb4)
  have F4 := Hid.mk (F3.out.below hb4)
  have HI4 := Hid.mk hI4
  have LL : Hid (w.heap.size < w3.heap.size ∧ w3.heap.size ≤ w4.heap.size) := ⟨zw, hb4.size⟩
  clear hb4 hI4 HB3 A3 F3 zw
  go_wp2_with fail
  have HTb := Hid.mk (HT.out.below (below_alloc' HB4.out (.cells #[.slice p4 P.n P.n] 30)))
  refine (ansI P p4 P.n L4 N _ hN0.out (HI4.out.at.below (below_alloc' (Below.refl _ _) _)) m1 m2 HTb.out.t HTb.out.s HTb.out.p).mono ?_
  rintro e w5 ⟨g, gc, rfl, hg, hb5⟩
  rw [World.size_alloc] at hg
  have z5 := hb5.size
  rw [World.size_alloc] at z5
  have HB5 := Hid.mk (below_then (below_alloc' HB4.out _) hb5)
  have A5 := Hid.mk (blk_below (blk_alloc A4.out _) hb5)
  have X5 := Hid.mk (blk_below (blk_new w4 _) hb5)
  have hb45 : Below w4.heap.size w4 w5 := below_then (below_alloc' (Below.refl _ _) _) hb5
  have HI5 := Hid.mk (HI4.out.below hb45)
  have F5 := Hid.mk (F4.out.below (hb45.mono LL.out.2))
  have G5 := Hid.mk hg
  clear hb5 hb45 hg HB4 A4 F4 HTb
  go_wp2_with fail
  refine (eqByteS _ _ _ _ _ _ _ N _ _ _ hN0.out G5.out F5.out hN1).mono ?_
  rintro e w6 ⟨rfl, hb6⟩
  have z6 := hb6.size
  have HB6 := Hid.mk (below_then HB5.out hb6)
  have A6 := Hid.mk (blk_below A5.out hb6)
  have X6 := Hid.mk (blk_below X5.out hb6)
  have HI6 := Hid.mk (HI5.out.below hb6)
  have F6 := Hid.mk (F5.out.below (hb6.mono (by have := LL.out; omega)))
  have G6 := Hid.mk (G5.out.below hb6)
  clear hb6 HB5 A5 X5 HI5 F5 G5
  have x0 := blk_cell A6.out 0
  have y0 := blk_cell X6.out 0
  simp only [List.getElem?_toArray, List.getElem?_cons_zero] at x0 y0
  go_wp2_with fail
  have HI6d : Hid (PrAt w6.drew p4 P L4) := HI6.out.at.below (Below.refl _ _).drew
  have Hd : Hid (PrAt w6.drew a P L) := H.out.below HB6.out.drew
  go_region_held3 (fun w' => w'.cell? ⟨w.heap.size, 0, none⟩ = some (.slice a P.n c) ∧ w'.cell? ⟨w4.heap.size, 0, none⟩ = some (.slice p4 P.n P.n))
    (first | go_keep | ((repeat' constructor) <;> first | exact cell_keep hb8 (by first | assumption | (simp [*]; done)) | exact cell_keep hb7 (by first | assumption | (simp [*]; done))))
    ((first | (go_at_call 6; refine (toProg P a c L _ Hd.out m1 m2).mono ?_; rintro e w7 ⟨L7, p7, rfl, hb7, hI7⟩) | (go_at_call 9; refine (eqProg P p4 p7 _ _ L4 L7 _ (HI6d.out.below hb7) hI7.at m1 m2).mono ?_; rintro e w8 ⟨rfl, hb8⟩)))
  have hb68 : Below w6.heap.size w6 w8 := below_then (below_then (Below.refl _ _).drew hb7) hb8
  have z8 := hb68.size
  have HB8 := Hid.mk (below_then HB6.out hb68)
  have A8 := Hid.mk (blk_below A6.out hb68)
  have X8 := Hid.mk (blk_below X6.out hb68)
  have HI8 := Hid.mk (HI6.out.below hb68)
  have F8 := Hid.mk (F6.out.below (hb68.mono (by have := LL.out; omega)))
  have G8 := Hid.mk (G6.out.below (hb68.mono z6))
  clear hb7 hb8 hb68 hI7 HI6 HI6d Hd x0 y0 HB6 A6 X6 F6 G6
  have y0 := blk_cell X8.out 0
  simp only [List.getElem?_toArray, List.getElem?_cons_zero] at y0
  go_wp2_with fail
  clear y0
  refine (markProg w3.heap.size w4.heap.size P p4 P.n L4 1 _ w4 HI8.out HI4.out (Nat.le_refl _) m1 m2 (by omega) (by omega) (by have := LL.out; omega)).mono ?_
  rintro e w9 ⟨k, rfl, hk, hm9⟩
  have z9 := hm9.1.size
  have HB9 := Hid.mk (HB8.out.trans (hm9.1.mono (by have := LL.out; omega)))
  have A9 : Hid (w9.heap[w.heap.size]? = _) := Hid.mk ((hm9.1.block w.heap.size (by have := LL.out; omega)).trans A8.out)
  have F9 := Hid.mk (F8.out.below hm9.1)
  have G9 := Hid.mk (kept_at G8.out hm9 (Nat.le_succ _) (by omega))
  clear hm9 HB8 A8 X8 HI8 HI4 F8 G8
  go_wp2_with fail
  refine (eqByteS _ _ _ _ _ _ _ N _ _ _ hN0.out G9.out F9.out hN1).mono ?_
  rintro e w10 ⟨rfl, hb10⟩
  have z10 := hb10.size
  have HB10 := Hid.mk (below_then HB9.out hb10)
  have A10 := Hid.mk (blk_below A9.out hb10)
  have F10 := Hid.mk (F9.out.below (hb10.mono (by have := LL.out; omega)))
  have G10 := Hid.mk (G9.out.below (hb10.mono (by omega)))
  clear hb10 HB9 A9 F9 G9
  go_wp2_with fail
  refine (markByteS _ _ _ _ N _ 1 _ hN0.out G10.out hN1 (by omega) (by omega)).mono ?_
  rintro e w11 ⟨rfl, hb11, -, hh11⟩
  have z11 := hb11.size
  have HB11 := Hid.mk (HB10.out.trans (hb11.mono (by have := LL.out; omega)))
  have A11 : Hid (w11.heap[w.heap.size]? = _) := Hid.mk ((hb11.block w.heap.size (by have := LL.out; omega)).trans A10.out)
  have F11 := Hid.mk (F10.out.below (hb11.mono (by have := LL.out; omega)))
  have HH11 := Hid.mk hh11
  clear hb11 hh11 HB10 A10 F10 G10
  go_wp2_with fail
  refine (heldByteS _ _ _ N _ 1 _ HH11.out hN1 (by omega) (by omega)).mono ?_
  rintro e w12 ⟨rfl, hb12⟩
  have z12 := hb12.size
  have HB12 := Hid.mk (below_then HB11.out hb12)
  have A12 := Hid.mk (blk_below A11.out hb12)
  have F12 := Hid.mk (F11.out.below (hb12.mono (by have := LL.out; omega)))
  clear hb12 HB11 A11 F11 HH11
  have x0 := blk_cell A12.out 0
  simp only [List.getElem?_toArray, List.getElem?_cons_zero] at x0
  go_wp2_with fail
  clear x0
  refine (toProg P a c L _ (H.out.below HB12.out) m1 m2).mono ?_
  rintro e w13 ⟨L13, p13, rfl, hb13, hI13⟩
  have z13 := hb13.size
  have HB13 := Hid.mk (below_then HB12.out hb13)
  have F13 := Hid.mk (F12.out.below (hb13.mono (by have := LL.out; omega)))
  have HI13 := Hid.mk hI13
  have HTc := Hid.mk (HT.out.below HB13.out)
  clear hb13 hI13 HB12 A12 F12
  go_wp2_with fail
  refine (ansI P p13 P.n L13 N _ hN0.out HI13.out.at m1 m2 HTc.out.t HTc.out.s HTc.out.p).mono ?_
  rintro e w14 ⟨f', fc', rfl, hf', hb14⟩
  have z14 := hb14.size
  have HB14 := Hid.mk (below_then HB13.out hb14)
  have F14 := Hid.mk (F13.out.below (hb14.mono (by have := LL.out; omega)))
  have G14 := Hid.mk hf'
  clear hb14 hf' HB13 F13 HI13 HTc
  go_wp2_with fail
  refine (eqByteS _ _ _ _ _ _ _ N _ _ _ hN0.out G14.out F14.out hN1).mono ?_
  rintro e w15 ⟨rfl, hb15⟩
  have HB15 := Hid.mk (below_then HB14.out hb15)
  clear hb15 HB14 F14 G14
  go_wp2
  go_ret
  exact ⟨rfl, HB15.out⟩
end Go.Proofs.YthobdaeglhdhnaaGreatDoor.LawPP
