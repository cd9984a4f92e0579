import Derived.Test.YtdhnjkcebaahcaaDoorValCT
import Derived.Test.YtdhnjkcebaahcaaDoorValCI
import Derived.Test.YtdhnjkcebaahcaaDoorCopyC2
import Derived.Test.YtdhnjkcebaahcaaDoorEqC
import Derived.Deep.DrawnRows
namespace Go.Proofs.YtdhnjkcebaahcaaDoor.LawValC
open Go Go.RowKit Go.Sort Go.Proofs.YtdhnjkcebaahcaaDoor.Mem
set_option linter.unusedVariables false
attribute [local go_sem ↓] Go.wp_at_zero Go.wp_at_succ

set_option maxHeartbeats 4000000 in
set_option maxRecDepth 100000 in
theorem law (a1 a2 a3 : Option Addr) (c1 c2 c3 : Nat) (C : Co) (w : World) (h : CoAt w a1 a2 a3 C) (h1 : C.n1 ≤ 9223372036854775807) (h2 : C.n2 ≤ 9223372036854775807) (h3 : C.n3 ≤ 9223372036854775807) (hT : ValC.TabC w) :
    Calls Tryd.prog 4 #[coV C a1 a2 a3 c1 c2 c3] w fun e w' => e = .returned (.bool true) ∧ Below w.heap.size w w' := by
  have H := Hid.mk h
  have HT := Hid.mk hT
  clear h hT
  unfold coV
  go_enter Tryd.func4, Tryd.ntmps4
  go_wp2_with fail
  refine (Eq.szCode a1 a2 a3 c1 c2 c3 C.n1 C.n2 C.n3 C.R C.S _ h1 h2 h3).mono ?_
  rintro e w1 ⟨r, rfl, hb1, hr⟩
  have HB1 := Hid.mk (below_then (w := w) (by go_grown) hb1)
  have A0 := Hid.mk (blk_below (blk_new w _) hb1)
  clear hb1
  rcases hr with hr | ⟨r0, r1, m1, m2, m3⟩
  · go_wp2
    go_ret
    exact ⟨rfl, HB1.out⟩
  have x0 := blk_cell A0.out 0
  have x1 := blk_cell A0.out 1
  have x2 := blk_cell A0.out 2
  have x3 := blk_cell A0.out 3
  have x4 := blk_cell A0.out 4
  simp only [List.getElem?_toArray, List.getElem?_cons_zero, List.getElem?_cons_succ] at x0 x1 x2 x3 x4
  go_wp2_with fail
  clear x0 x1 x2 x3 x4
  refine (Copy.toCode a1 a2 a3 c1 c2 c3 C _ (H.out.below HB1.out) m1 m2 m3).mono ?_
  rintro e w2 ⟨p1, p2, p3, rfl, hb2, hI2, -⟩
  have HB2 := Hid.mk (below_then HB1.out hb2)
  have A2 := Hid.mk (blk_below A0.out hb2)
  have HI2 := Hid.mk hI2
  clear hb2 hI2 HB1 A0
  go_wp2_with fail
  refine (ValCS.validS _ _ _ _ _ _ C _ HI2.out m1 m2 m3).mono ?_
  rintro e w3 ⟨rfl, hb3⟩
  have HB3 := Hid.mk (below_then HB2.out hb3)
  have A3 := Hid.mk (blk_below A2.out hb3)
  clear hb3 HB2 A2 HI2
  have x0 := blk_cell A3.out 0
  have x1 := blk_cell A3.out 1
  have x2 := blk_cell A3.out 2
  have x3 := blk_cell A3.out 3
  have x4 := blk_cell A3.out 4
  simp only [List.getElem?_toArray, List.getElem?_cons_zero, List.getElem?_cons_succ] at x0 x1 x2 x3 x4
  go_wp2_with fail
  clear x0 x1 x2 x3 x4
  refine (Copy.toCode a1 a2 a3 c1 c2 c3 C _ (H.out.below HB3.out) m1 m2 m3).mono ?_
  rintro e w4 ⟨q1, q2, q3, rfl, hb4, hI4, -⟩
  have HB4 := Hid.mk (below_then HB3.out hb4)
  have A4 := Hid.mk (blk_below A3.out hb4)
  have HI4 := Hid.mk hI4
  clear hb4 hI4 HB3 A3
  go_wp2_with fail
  refine (ValC.validI _ _ _ _ _ _ C _ (HI4.out.below (by go_grown)) m1 m2 m3 (HT.out.below (HB4.out.alloc HB4.out.size _))).mono ?_
  rintro e w5 ⟨rfl, hb5⟩
  have HB5 := Hid.mk (below_then (HB4.out.alloc HB4.out.size _) hb5)
  have A5 := Hid.mk (blk_below (blk_alloc A4.out _) hb5)
  have X5 := Hid.mk (blk_below (blk_new w4 _) hb5)
  have HI5 := Hid.mk ((HI4.out.below (w' := w4.alloc _) (by go_grown)).below hb5)
  clear hb5 HB4 A4 HI4
  have x0 := blk_cell A5.out 0
  have x1 := blk_cell A5.out 1
  have x2 := blk_cell A5.out 2
  have x3 := blk_cell A5.out 3
  have x4 := blk_cell A5.out 4
  have y0 := blk_cell X5.out 0
  have y1 := blk_cell X5.out 1
  have y2 := blk_cell X5.out 2
  have y3 := blk_cell X5.out 3
  have y4 := blk_cell X5.out 4
  simp only [List.getElem?_toArray, List.getElem?_cons_zero, List.getElem?_cons_succ] at x0 x1 x2 x3 x4 y0 y1 y2 y3 y4
  go_wp2_with fail
  have HI5d : Hid (CoAt w5.drew _ _ _ C) := HI5.out.below (Below.refl _ _).drew
  have Hd : Hid (CoAt w5.drew a1 a2 a3 C) := H.out.below HB5.out.drew
  go_region_held3 (fun w' => w'.cell? ⟨w.heap.size, 0, none⟩ = some (.int .i64 C.R) ∧ w'.cell? ⟨w.heap.size, 1, none⟩ = some (.int .i64 C.S) ∧ w'.cell? ⟨w.heap.size, 2, none⟩ = some (.slice a1 C.n1 c1) ∧ w'.cell? ⟨w.heap.size, 3, none⟩ = some (.slice a2 C.n2 c2) ∧ w'.cell? ⟨w.heap.size, 4, none⟩ = some (.slice a3 C.n3 c3) ∧ w'.cell? ⟨w4.heap.size, 0, none⟩ = some (.int .i64 C.R) ∧ w'.cell? ⟨w4.heap.size, 1, none⟩ = some (.int .i64 C.S) ∧ w'.cell? ⟨w4.heap.size, 2, none⟩ = some (.slice (some ⟨q1, 0, none⟩) C.n1 C.n1) ∧ w'.cell? ⟨w4.heap.size, 3, none⟩ = some (.slice (some ⟨q2, 0, none⟩) C.n2 C.n2) ∧ w'.cell? ⟨w4.heap.size, 4, none⟩ = some (.slice (some ⟨q3, 0, none⟩) C.n3 C.n3))
    (first | go_keep | ((repeat' constructor) <;> first | exact cell_keep hb7 (by first | assumption | (simp [*]; done)) | exact cell_keep hb6 (by first | assumption | (simp [*]; done))))
    ((first | (go_at_call 18; refine (Copy.toCode a1 a2 a3 c1 c2 c3 C _ Hd.out m1 m2 m3).mono ?_; rintro e w6 ⟨s1, s2, s3, rfl, hb6, hI6, -⟩) | (go_at_call 20; refine (Eq.eqCode _ _ _ _ _ _ _ _ _ _ _ _ C _ (HI5d.out.below hb6) hI6 m1 m2 m3).mono ?_; rintro e w7 ⟨rfl, hb7⟩)))
  have HB7 := Hid.mk (below_then (below_then HB5.out.drew hb6) hb7)
  clear hb6 hb7 hI6 HI5 HI5d Hd x0 x1 x2 x3 x4 y0 y1 y2 y3 y4
  go_wp2
  go_ret
  exact ⟨rfl, HB7.out⟩
end Go.Proofs.YtdhnjkcebaahcaaDoor.LawValC
