import Derived.Test.YtdpmdmgjlpiikaaTravelS
import Derived.Test.YtdpmdmgjlpiikaaTravelI
import Derived.Test.YtdpmdmgjlpiikaaCopy
import Derived.Test.YtdpmdmgjlpiikaaEq3
import Derived.Deep.DrawnRows
namespace Go.Proofs.Ytdpmdmgjlpiikaa.LawTravel
open Go Go.RowKit Go.Sort Go.Proofs.Ytdpmdmgjlpiikaa.Mem
set_option linter.unusedVariables false
attribute [local go_sem ↓] Go.wp_at_zero Go.wp_at_succ

set_option maxHeartbeats 4000000 in
set_option maxRecDepth 100000 in
theorem law (a1 a2 a3 : Option Addr) (c1 c2 c3 : Nat) (I : In) (a b : Int) (w : World) (h : InAt w a1 a2 a3 I) (h1 : I.nV ≤ 9223372036854775807) (h2 : I.nQ ≤ 9223372036854775807) (h3 : I.nR ≤ 9223372036854775807) :
    Calls Try.prog 6 #[.agg #[.slice a1 I.nV c1, .slice a2 I.nQ c2, .slice a3 I.nR c3], .int .i64 a, .int .i64 b] w fun e w' => e = .returned (.bool true) ∧ Below w.heap.size w w' := by
  have H := Hid.mk h
  clear h
  go_enter Try.func6, Try.ntmps6
  go_wp2_with fail
  refine (Eq.szInst a1 a2 a3 c1 c2 c3 I.nV I.nQ I.nR _ h1 h2 h3).mono ?_
  rintro e w1 ⟨r, rfl, hb1, hr⟩
  have HB1 := Hid.mk (below_then (w := w) (by go_grown) hb1)
  have A0 := Hid.mk (blk_below (blk_new w _) hb1)
  clear hb1
  rcases hr with hr | ⟨r0, r1, m1, m2, m3⟩
  · go_wp2
    go_ret
    exact ⟨rfl, HB1.out⟩
  have x0 := blk_cell A0.out 0
  have x1 := blk_cell A0.out 1
  have x2 := blk_cell A0.out 2
  simp only [List.getElem?_toArray, List.getElem?_cons_zero, List.getElem?_cons_succ] at x0 x1 x2
  go_wp2_with fail
  clear x0 x1 x2
  refine (Copy.toInst a1 a2 a3 c1 c2 c3 I _ (H.out.below HB1.out) m1 m2 m3).mono ?_
  rintro e w2 ⟨p1, p2, p3, rfl, hb2, hI2, -⟩
  have HB2 := Hid.mk (below_then HB1.out hb2)
  have A2 := Hid.mk (blk_below A0.out hb2)
  have HI2 := Hid.mk hI2
  clear hb2 hI2 HB1 A0
  go_wp2_with fail
  refine (Travel.travelS _ _ _ _ _ _ I a b _ HI2.out m1 m2 m3).mono ?_
  rintro e w3 ⟨rfl, hb3⟩
  have HB3 := Hid.mk (below_then HB2.out hb3)
  have A3 := Hid.mk (blk_below A2.out hb3)
  clear hb3 HB2 A2 HI2
  have x0 := blk_cell A3.out 0
  have x1 := blk_cell A3.out 1
  have x2 := blk_cell A3.out 2
  simp only [List.getElem?_toArray, List.getElem?_cons_zero, List.getElem?_cons_succ] at x0 x1 x2
  go_wp2_with fail
  clear x0 x1 x2
  refine (Copy.toInst a1 a2 a3 c1 c2 c3 I _ (H.out.below HB3.out) m1 m2 m3).mono ?_
  rintro e w4 ⟨q1, q2, q3, rfl, hb4, hI4, -⟩
  have HB4 := Hid.mk (below_then HB3.out hb4)
  have A4 := Hid.mk (blk_below A3.out hb4)
  have HI4 := Hid.mk hI4
  clear hb4 hI4 HB3 A3
  go_wp2_with fail
  refine (Travel.travelI _ _ _ _ _ _ I a b _ (HI4.out.below (by go_grown)) m1 m2 m3).mono ?_
  rintro e w5 ⟨rfl, hb5⟩
  have HB5 := Hid.mk (below_then (HB4.out.alloc HB4.out.size _) hb5)
  have A5 := Hid.mk (blk_below (blk_alloc A4.out _) hb5)
  have X5 := Hid.mk (blk_below (blk_new w4 _) hb5)
  have HI5 := Hid.mk ((HI4.out.below (w' := w4.alloc _) (by go_grown)).below hb5)
  clear hb5 HB4 A4 HI4
  have x0 := blk_cell A5.out 0
  have x1 := blk_cell A5.out 1
  have x2 := blk_cell A5.out 2
  have y0 := blk_cell X5.out 0
  have y1 := blk_cell X5.out 1
  have y2 := blk_cell X5.out 2
  simp only [List.getElem?_toArray, List.getElem?_cons_zero, List.getElem?_cons_succ] at x0 x1 x2 y0 y1 y2
  go_wp2_with fail
  have HI5d : Hid (InAt w5.drew _ _ _ I) := HI5.out.below (Below.refl _ _).drew
  have Hd : Hid (InAt w5.drew a1 a2 a3 I) := H.out.below HB5.out.drew
  go_region_held3 (fun w' => w'.cell? ⟨w.heap.size, 0, none⟩ = some (.slice a1 I.nV c1) ∧ w'.cell? ⟨w.heap.size, 1, none⟩ = some (.slice a2 I.nQ c2) ∧ w'.cell? ⟨w.heap.size, 2, none⟩ = some (.slice a3 I.nR c3) ∧ w'.cell? ⟨w4.heap.size, 0, none⟩ = some (.slice (some ⟨q1, 0, none⟩) I.nV I.nV) ∧ w'.cell? ⟨w4.heap.size, 1, none⟩ = some (.slice (some ⟨q2, 0, none⟩) I.nQ I.nQ) ∧ w'.cell? ⟨w4.heap.size, 2, none⟩ = some (.slice (some ⟨q3, 0, none⟩) I.nR I.nR))
    (first | go_keep | ((repeat' constructor) <;> first | exact cell_keep hb7 (by first | assumption | (simp [*]; done)) | exact cell_keep hb6 (by first | assumption | (simp [*]; done))))
    ((first | (go_at_call 14; refine (Copy.toInst a1 a2 a3 c1 c2 c3 I _ Hd.out m1 m2 m3).mono ?_; rintro e w6 ⟨s1, s2, s3, rfl, hb6, hI6, -⟩) | (go_at_call 16; refine (Eq.eqInst _ _ _ _ _ _ _ _ _ _ _ _ I _ (HI5d.out.below hb6) hI6 m1 m2 m3).mono ?_; rintro e w7 ⟨rfl, hb7⟩)))
  have HB7 := Hid.mk (below_then (below_then HB5.out.drew hb6) hb7)
  clear hb6 hb7 hI6 HI5 HI5d Hd x0 x1 x2 y0 y1 y2
  go_wp2
  go_ret
  exact ⟨rfl, HB7.out⟩
end Go.Proofs.Ytdpmdmgjlpiikaa.LawTravel
