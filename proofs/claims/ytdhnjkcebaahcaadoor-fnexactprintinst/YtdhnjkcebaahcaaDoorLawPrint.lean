import Derived.Test.YtdhnjkcebaahcaaDoorPrintS
import Derived.Test.YtdhnjkcebaahcaaDoorCopy
import Derived.Test.YtdhnjkcebaahcaaDoorEq3
import Derived.Deep.DrawnRows
namespace Go.Proofs.YtdhnjkcebaahcaaDoor.LawPrint
open Go Go.RowKit Go.Sort Go.Proofs.YtdhnjkcebaahcaaDoor.Mem Go.Proofs.YtdhnjkcebaahcaaDoor.Print Go.Proofs.YtdhnjkcebaahcaaDoor.Marks
set_option linter.unusedVariables false
attribute [local go_sem ↓] Go.wp_at_zero Go.wp_at_succ

set_option maxHeartbeats 8000000 in
set_option maxRecDepth 100000 in
theorem law (a1 a2 a3 : Option Addr) (c1 c2 c3 : Nat) (I : In) (w : World) (h : InAt w a1 a2 a3 I) (h1 : I.nV ≤ 9223372036854775807) (h2 : I.nQ ≤ 9223372036854775807) (h3 : I.nR ≤ 9223372036854775807) (hT : Tab w.heap.size w) :
    Calls Tryd.prog 3 #[.agg #[.slice a1 I.nV c1, .slice a2 I.nQ c2, .slice a3 I.nR c3]] w fun e w' => e = .returned (.bool true) ∧ Below w.heap.size w w' := by
  have H := Hid.mk h
  have HT := Hid.mk hT
  clear h hT
  obtain ⟨N, hN0, hN1⟩ : ∃ N, Hid (N = (answer I).length) ∧ N ≤ 100000000 := ⟨_, rfl, answer_len I⟩
  go_enter Tryd.func3, Tryd.ntmps3
  go_wp2_with fail
  refine (Eq.szInst a1 a2 a3 c1 c2 c3 I.nV I.nQ I.nR _ h1 h2 h3).mono ?_
  rintro e w1 ⟨r, rfl, hb1, hr⟩
  have HB1 := Hid.mk (below_then (w := w) (by go_grown) hb1)
  have A0 := Hid.mk (blk_below (blk_new w _) hb1)
  clear hb1
  rcases hr with hr | ⟨r0, r1, m1, m2, m3⟩
  · go_wp2
    go_ret
    exact ⟨rfl, HB1.out⟩
  have x0 := blk_cell A0.out 0
  have x1 := blk_cell A0.out 1
  have x2 := blk_cell A0.out 2
  simp only [List.getElem?_toArray, List.getElem?_cons_zero, List.getElem?_cons_succ] at x0 x1 x2
  go_wp2_with fail
  clear x0 x1 x2
  refine (Copy.toInst a1 a2 a3 c1 c2 c3 I _ (H.out.below HB1.out) m1 m2 m3).mono ?_
  rintro e w2 ⟨p1, p2, p3, rfl, hb2, hI2, -⟩
  have HB2 := Hid.mk (below_then HB1.out hb2)
  have A2 := Hid.mk (blk_below A0.out hb2)
  have HI2 := Hid.mk hI2
  clear hb2 hI2 HB1 A0
  go_wp2_with fail
  refine (printSA _ _ _ _ _ _ I N _ hN0.out HI2.out m1 m2 m3).mono ?_
  rintro e w3 ⟨f, fc, rfl, hf, hb3⟩
  have HB3 := Hid.mk (below_then HB2.out hb3)
  have A3 := Hid.mk (blk_below A2.out hb3)
  have zw := blk_lt A3.out
  have F3 := Hid.mk hf
  clear hb3 hf HB2 A2 HI2
  have x0 := blk_cell A3.out 0
  have x1 := blk_cell A3.out 1
  have x2 := blk_cell A3.out 2
  simp only [List.getElem?_toArray, List.getElem?_cons_zero, List.getElem?_cons_succ] at x0 x1 x2
  go_wp2_with fail
  clear x0 x1 x2
  refine (Copy.toInst a1 a2 a3 c1 c2 c3 I _ (H.out.below HB3.out) m1 m2 m3).mono ?_
  rintro e w4 ⟨q1, q2, q3, rfl, hb4, hI4, l0, l1, l2, l3, t1, t2, t3⟩
  have HB4 := Hid.mk (below_then HB3.out hb4)
  have A4 := Hid.mk (blk_below A3.out hb4)
  have F4 := Hid.mk (F3.out.below hb4)
  have HI4 := Hid.mk hI4
  have T1 := Hid.mk t1
  have T2 := Hid.mk t2
  have T3 := Hid.mk t3
  have L := Hid.mk (And.intro l0 (And.intro l1 (And.intro l2 l3)))
  clear hb4 hI4 HB3 A3 F3 t1 t2 t3 l0 l1 l2 l3
  go_wp2_with fail
  refine (printIA _ _ _ _ _ _ I N _ hN0.out (HI4.out.below (by go_grown)) m1 m2 m3 (HT.out.up (below_alloc' HB4.out _) (by have := HB4.out.size; simp; omega))).mono ?_
  rintro e w5 ⟨g, gc, rfl, hg, hb5⟩
  have z5 := hb5.size
  rw [World.size_alloc] at z5
  have HB5 := Hid.mk (below_then (HB4.out.alloc HB4.out.size _) hb5)
  have A5 := Hid.mk (blk_below (blk_alloc A4.out _) hb5)
  have X5 := Hid.mk (blk_below (blk_new w4 _) hb5)
  have hz : w4.heap.size ≤ (w4.alloc (.cells #[.slice (some ⟨q1, 0, none⟩) I.nV I.nV, .slice (some ⟨q2, 0, none⟩) I.nQ I.nQ, .slice (some ⟨q3, 0, none⟩) I.nR I.nR] 34)).heap.size := by rw [World.size_alloc]; omega
  have hb45 : Below w4.heap.size w4 w5 := below_then (below_alloc' (Below.refl _ _) _) hb5
  have HI5 := Hid.mk (HI4.out.below hb45)
  have T1' := Hid.mk (there_below T1.out (by have := L.out; omega) hb45)
  have T2' := Hid.mk (there_below T2.out (by have := L.out; omega) hb45)
  have T3' := Hid.mk (there_below T3.out (by have := L.out; omega) hb45)
  have F5 := Hid.mk (F4.out.below (hb45.mono (by have := L.out; omega)))
  have G5 := Hid.mk hg
  clear hb5 hb45 hg HB4 A4 HI4 T1 T2 T3 F4
  go_wp2_with fail
  refine (eqByteS _ _ _ _ _ _ _ N _ _ _ hN0.out G5.out F5.out hN1).mono ?_
  rintro e w6 ⟨rfl, hb6⟩
  have z6 := hb6.size
  have HB6 := Hid.mk (below_then HB5.out hb6)
  have A6 := Hid.mk (blk_below A5.out hb6)
  have X6 := Hid.mk (blk_below X5.out hb6)
  have HI6 := Hid.mk (HI5.out.below hb6)
  have U1 := Hid.mk (there_below T1'.out (by have := L.out; omega) hb6)
  have U2 := Hid.mk (there_below T2'.out (by have := L.out; omega) hb6)
  have U3 := Hid.mk (there_below T3'.out (by have := L.out; omega) hb6)
  have F6 := Hid.mk (F5.out.below (hb6.mono (by have := L.out; omega)))
  have G6 := Hid.mk (G5.out.below hb6)
  clear hb6 HB5 A5 X5 HI5 T1' T2' T3' F5 G5
  have x0 := blk_cell A6.out 0
  have x1 := blk_cell A6.out 1
  have x2 := blk_cell A6.out 2
  have y0 := blk_cell X6.out 0
  have y1 := blk_cell X6.out 1
  have y2 := blk_cell X6.out 2
  simp only [List.getElem?_toArray, List.getElem?_cons_zero, List.getElem?_cons_succ] at x0 x1 x2 y0 y1 y2
  go_wp2_with fail
  have HI6d : Hid (InAt w6.drew _ _ _ I) := HI6.out.below (Below.refl _ _).drew
  have Hd : Hid (InAt w6.drew a1 a2 a3 I) := H.out.below HB6.out.drew
  go_region_held3 (fun w' => w'.cell? ⟨w.heap.size, 0, none⟩ = some (.slice a1 I.nV c1) ∧ w'.cell? ⟨w.heap.size, 1, none⟩ = some (.slice a2 I.nQ c2) ∧ w'.cell? ⟨w.heap.size, 2, none⟩ = some (.slice a3 I.nR c3) ∧ w'.cell? ⟨w4.heap.size, 0, none⟩ = some (.slice (some ⟨q1, 0, none⟩) I.nV I.nV) ∧ w'.cell? ⟨w4.heap.size, 1, none⟩ = some (.slice (some ⟨q2, 0, none⟩) I.nQ I.nQ) ∧ w'.cell? ⟨w4.heap.size, 2, none⟩ = some (.slice (some ⟨q3, 0, none⟩) I.nR I.nR))
    (first | go_keep | ((repeat' constructor) <;> first | exact cell_keep hb8 (by first | assumption | (simp [*]; done)) | exact cell_keep hb7 (by first | assumption | (simp [*]; done))))
    ((first | (go_at_call 9; refine (Copy.toInst a1 a2 a3 c1 c2 c3 I _ Hd.out m1 m2 m3).mono ?_; rintro e w7 ⟨s1, s2, s3, rfl, hb7, hI7, -⟩) | (go_at_call 12; refine (Eq.eqInst _ _ _ _ _ _ _ _ _ _ _ _ I _ (HI6d.out.below hb7) hI7 m1 m2 m3).mono ?_; rintro e w8 ⟨rfl, hb8⟩)))
  have hb68 : Below w6.heap.size w6 w8 := below_then (below_then (Below.refl _ _).drew hb7) hb8
  have z8 := hb68.size
  have HB8 := Hid.mk (below_then HB6.out hb68)
  have A8 := Hid.mk (blk_below A6.out hb68)
  have X8 := Hid.mk (blk_below X6.out hb68)
  have V1 := Hid.mk (there_below U1.out (by have := L.out; omega) hb68)
  have V2 := Hid.mk (there_below U2.out (by have := L.out; omega) hb68)
  have V3 := Hid.mk (there_below U3.out (by have := L.out; omega) hb68)
  have F8 := Hid.mk (F6.out.below (hb68.mono (by have := L.out; omega)))
  have G8 := Hid.mk (G6.out.below (hb68.mono (by omega)))
  clear hb7 hb8 hb68 hI7 HI6 HI6d Hd x0 x1 x2 y0 y1 y2 HB6 A6 X6 U1 U2 U3 F6 G6
  have y0 := blk_cell X8.out 0
  have y1 := blk_cell X8.out 1
  have y2 := blk_cell X8.out 2
  simp only [List.getElem?_toArray, List.getElem?_cons_zero, List.getElem?_cons_succ] at y0 y1 y2
  go_wp2_with fail
  clear y0 y1 y2
  refine (markInst q1 q2 q3 I.nV I.nQ I.nR _ _ _ 1 _ V1.out V2.out V3.out L.out.2.1 L.out.2.2.1 (by have := L.out; omega) m1 m2 m3 (by omega) (by omega)).mono ?_
  rintro e w9 ⟨k, rfl, hk, hb9, hk9⟩
  have z9 := hb9.size
  have HB9 := Hid.mk (HB8.out.trans (hb9.mono (by have := L.out; have := HB8.out.size; omega)))
  have A9 : Hid (w9.heap[w.heap.size]? = _) := Hid.mk ((hb9.block w.heap.size (by have := L.out; omega)).trans A8.out)
  have F9 := Hid.mk (F8.out.below (hb9.mono (by have := L.out; omega)))
  have G9 := Hid.mk (G8.out.kept hk9 (by have := L.out; simp; omega) (by omega))
  clear hb9 hk9 HB8 A8 X8 V1 V2 V3 F8 G8
  go_wp2_with fail
  refine (eqByteS _ _ _ _ _ _ _ N _ _ _ hN0.out G9.out F9.out hN1).mono ?_
  rintro e w10 ⟨rfl, hb10⟩
  have z10 := hb10.size
  have HB10 := Hid.mk (below_then HB9.out hb10)
  have A10 := Hid.mk (blk_below A9.out hb10)
  have F10 := Hid.mk (F9.out.below (hb10.mono (by have := L.out; omega)))
  have G10 := Hid.mk (G9.out.below (hb10.mono (by omega)))
  clear hb10 HB9 A9 F9 G9
  go_wp2_with fail
  refine (markByteS _ _ _ _ N _ 1 _ hN0.out G10.out hN1 (by omega) (by omega)).mono ?_
  rintro e w11 ⟨rfl, hb11, -, hh11⟩
  have z11 := hb11.size
  have HB11 := Hid.mk (HB10.out.trans (hb11.mono (by have := L.out; omega)))
  have A11 : Hid (w11.heap[w.heap.size]? = _) := Hid.mk ((hb11.block w.heap.size (by have := L.out; omega)).trans A10.out)
  have F11 := Hid.mk (F10.out.below (hb11.mono (by have := L.out; omega)))
  have HH11 := Hid.mk hh11
  clear hb11 hh11 HB10 A10 F10 G10
  go_wp2_with fail
  refine (heldByteS _ _ _ N _ 1 _ HH11.out hN1 (by omega) (by omega)).mono ?_
  rintro e w12 ⟨rfl, hb12⟩
  have z12 := hb12.size
  have HB12 := Hid.mk (below_then HB11.out hb12)
  have A12 := Hid.mk (blk_below A11.out hb12)
  have F12 := Hid.mk (F11.out.below (hb12.mono (by have := L.out; omega)))
  clear hb12 HB11 A11 F11 HH11
  have x0 := blk_cell A12.out 0
  have x1 := blk_cell A12.out 1
  have x2 := blk_cell A12.out 2
  simp only [List.getElem?_toArray, List.getElem?_cons_zero, List.getElem?_cons_succ] at x0 x1 x2
  go_wp2_with fail
  clear x0 x1 x2
  refine (Copy.toInst a1 a2 a3 c1 c2 c3 I _ (H.out.below HB12.out) m1 m2 m3).mono ?_
  rintro e w13 ⟨u1, u2, u3, rfl, hb13, hI13, -⟩
  have z13 := hb13.size
  have HB13 := Hid.mk (below_then HB12.out hb13)
  have F13 := Hid.mk (F12.out.below (hb13.mono (by have := L.out; omega)))
  have HI13 := Hid.mk hI13
  clear hb13 hI13 HB12 A12 F12
  go_wp2_with fail
  refine (printIA _ _ _ _ _ _ I N _ hN0.out HI13.out m1 m2 m3 (HT.out.up HB13.out HB13.out.size)).mono ?_
  rintro e w14 ⟨f', fc', rfl, hf', hb14⟩
  have z14 := hb14.size
  have HB14 := Hid.mk (below_then HB13.out hb14)
  have F14 := Hid.mk (F13.out.below (hb14.mono (by have := L.out; omega)))
  have G14 := Hid.mk hf'
  clear hb14 hf' HB13 F13 HI13
  go_wp2_with fail
  refine (eqByteS _ _ _ _ _ _ _ N _ _ _ hN0.out G14.out F14.out hN1).mono ?_
  rintro e w15 ⟨rfl, hb15⟩
  have HB15 := Hid.mk (below_then HB14.out hb15)
  clear hb15 HB14 F14 G14
  go_wp2
  go_ret
  exact ⟨rfl, HB15.out⟩
end Go.Proofs.YtdhnjkcebaahcaaDoor.LawPrint
