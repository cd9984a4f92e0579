import Derived.Test.YtgooegcmgejfpaaGreatDoorGr22
import Derived.Test.YtgooegcmgejfpaaGreatDoorGr23
import Derived.Deep.DrawnRows
import Derived.Deep.CutRange
import Derived.Deep.Cut
import Derived.Deep.DeepCutAuto
namespace Go.Proofs.YtgooegcmgejfpaaGreatDoor.Mac
open Go Go.RowKit Go.Proofs.YtgooegcmgejfpaaGreatDoor.Mem Go.Proofs.YtgooegcmgejfpaaGreatDoor.Travel
open Go.Proofs.YtgooegcmgejfpaaGreatDoor.Valid (inB nodes nodes_bd validB)
open Go.Proofs.YtgooegcmgejfpaaGreatDoor.StV (stopB stopI stopS)
open Go.Proofs.YtgooegcmgejfpaaGreatDoor.Arith (cl cl_bd sadd smul addS)
set_option linter.unusedVariables false
set_option linter.unusedSimpArgs false
attribute [local go_sem ↓] Go.wp_at_zero Go.wp_at_succ

theorem li_icells {w : World} {g : Nat} {t : TypeId} {fr : Nat × Nat} {l : List Int} (hb : w.heap[g]? = some (.cells (icells l).toArray t fr)) : Li w (some ⟨g, 0, none⟩) l :=
  Or.inr ⟨g, 0, rfl, li_cells hb rfl (fun i hi => by simp [icells, List.getD_eq_getElem?_getD, List.getElem?_eq_getElem hi])⟩
set_option maxHeartbeats 8000000 in
set_option maxRecDepth 100000 in
theorem nextS (b1 b2 b3 : Option Addr) (d1 d2 d3 : Nat) (I : In) (v : Nat) (po ru nd ti di lo n : Int) (a1 a2 a3 : Option Addr) (n1 c1 n2 c2 n3 c3 : Nat) (w : World) (hI : InAt w b1 b2 b3 I) (hval : validB I = true) (h1 : I.nV ≤ 64) (h2 : I.nQ ≤ 1000) (hv : v < I.nV) (f0 : 0 ≤ nd) (f1 : nd ≤ nodes I - 1) (m0 : 0 ≤ n) (m1 : n ≤ nodes I - 1) (hp0 : 0 ≤ po) (hp1 : po ≤ 100000)
    (sz o c h rm pk dp lg ar tm hd : Int) (hsz : sz = sizeOf I n) (ho : o = (plOf I n).o) (hc : c = (plOf I n).c) (hh : h = (plOf I n).h) (hrm : rm = (I.V v).a) (hpk : pk = pickOf I n) (hdp : dp = dropOf I n) (hlg : lg = legV I nd n) (hhd : hd = (plOf I nd).h) (har : ar = sadd (sadd ti hd) lg) (htm : tm = max o ar) (o0 : -1000000000 ≤ o) (o1 : o ≤ 1000000000) (sz0 : 0 ≤ sz) (sz1 : sz ≤ 1000000) :
    Calls Tryz.prog 69 #[.agg #[.slice b1 I.nV d1, .slice b2 I.nQ d2, .slice b3 I.nR d3], .int .i64 (v : Int), .agg #[.int .i64 po, .int .i64 ru, .int .i64 nd, .int .i64 ti, .int .i64 di, .int .i64 lo, .slice a1 n1 c1, .slice a2 n2 c2, .slice a3 n3 c3], .int .i64 n] w fun e w' => ∃ g, e = .returned (.slice (some ⟨g, 0, none⟩) 13 13) ∧ Li w' (some ⟨g, 0, none⟩) [tm, lg, sadd tm (-ar), sadd di lg, sadd lo ((pk - dp) * sz), sz, o, c, h, rm, po + 1, pk, dp] ∧ Below w.heap.size w w' ∧ w.heap.size ≤ g := by
  have HI := Hid.mk hI
  have HN := Hid.mk (And.intro (And.intro f0 f1) (And.intro m0 m1))
  have HV := Hid.mk hval
  have hab := sadd_bd (sadd ti hd) lg
  rw [← har] at hab
  have htb : -1000000000 ≤ tm ∧ tm ≤ 1000000000 := by omega
  have hnw : IntKind.i64.wrap (-ar) = -ar := by rw [IntKind.wrap_i64]; omega
  have hmw : IntKind.i64.wrap ((pk - dp) * sz) = (pk - dp) * sz := by
    rw [hpk, hdp]
    rcases pick_bd I n with ⟨e1, e2⟩ | ⟨e1, e2⟩ | ⟨e1, e2⟩ <;> rw [e1, e2, IntKind.wrap_i64] <;> omega
  have hpd : -1 ≤ pk - dp ∧ pk - dp ≤ 1 ∧ 0 ≤ pk ∧ pk ≤ 1 ∧ 0 ≤ dp ∧ dp ≤ 1 := by
    rw [hpk, hdp]
    rcases pick_bd I n with ⟨e1, e2⟩ | ⟨e1, e2⟩ | ⟨e1, e2⟩ <;> rw [e1, e2] <;> omega
  have hsw : IntKind.i64.wrap (pk - dp) = pk - dp := by rw [IntKind.wrap_i64]; omega
  have hpw : IntKind.i64.wrap (po + 1) = po + 1 := by rw [IntKind.wrap_i64]; omega
  have HLG := Hid.mk hlg
  have HAR := Hid.mk har
  have HTM := Hid.mk htm
  have HHD := Hid.mk hhd
  have HPL : Hid ((plOf I n).o = o ∧ (plOf I n).c = c ∧ (plOf I n).h = h) := ⟨ho.symm, hc.symm, hh.symm⟩
  have HRM := Hid.mk hrm
  have HPD : Hid (bit (stopB I n && ((n - I.nV) % 2 == 0)) = pk ∧ bit (stopB I n && ((n - I.nV) % 2 == 1)) = dp) := ⟨by rw [pick_eq, hpk], by rw [drop_eq, hdp]⟩
  have HSZ : Hid (sizeOf I n = sz) := hsz.symm
  clear hI f0 f1 m0 m1 hval hsz ho hc hh hrm hpk hdp hlg har htm hhd
  go_enter Tryz.func69, Tryz.ntmps69
  go_wp2_with fail
  refine (legS b1 b2 b3 d1 d2 d3 I nd n _ (HI.out.below (by go_grown)) HV.out HN.out.1.1 HN.out.1.2 HN.out.2.1 HN.out.2.2).mono ?_
  rintro e w1 ⟨rfl, hb⟩
  rw [← HLG.out]
  have HB1 := Hid.mk (below_then (w := w) (by go_grown) hb)
  have A0 := Hid.mk (blk_below (blk_alloc (blk_new w _) _) hb)
  have A1 := Hid.mk (blk_below (blk_new1 w _ _) hb)
  clear hb
  have x0 := blk_cell A0.out 0
  have x1 := blk_cell A0.out 1
  have x2 := blk_cell A0.out 2
  have y2 := blk_cell A1.out 2
  have y3 := blk_cell A1.out 3
  simp only [List.getElem?_toArray, List.getElem?_cons_zero, List.getElem?_cons_succ] at x0 x1 x2 y2 y3
  have e3 : sadd (sadd ti hd) lg = ar := HAR.out.symm
  have hfd : ∀ (x y p q r : Int) (w : World), (Instr.field 79 (.agg #[.int .i64 x, .int .i64 y, .int .i64 p, .int .i64 q, .int .i64 r]) 4).run Tryz.prog w = .ok (.int .i64 r) w := fun _ _ _ _ _ _ => by kernel_rfl
  go_upto_region 2 with fail
  go_region_held3 (fun w' => w'.cell? ⟨w.heap.size, 0, none⟩ = some (.slice b1 I.nV d1) ∧ w'.cell? ⟨w.heap.size, 1, none⟩ = some (.slice b2 I.nQ d2) ∧ w'.cell? ⟨w.heap.size, 2, none⟩ = some (.slice b3 I.nR d3) ∧ w'.cell? ⟨w.heap.size + 1, 2, none⟩ = some (.int .i64 nd) ∧ w'.cell? ⟨w.heap.size + 1, 3, none⟩ = some (.int .i64 ti))
    (first | ((repeat' constructor) <;> first | exact cell_keep hb1 (by assumption)) | go_keep)
    (first
      | (go_at_call 88; refine (placeOfS b1 b2 b3 d1 d2 d3 I nd _ (HI.out.below (by first | exact HB1.out | exact HB1.out.drew)) (by omega) (by omega) HN.out.1.1 HN.out.1.2).mono ?_; rintro e w2 ⟨rfl, hb1⟩; rw [← HHD.out])
      | (go_at_call 90; refine (addS _ _ _).mono ?_; rintro e w3 ⟨rfl, rfl⟩))
  have HB2 := Hid.mk (below_then HB1.out.drew hb1)
  have C0 := Hid.mk (blk_below (w := w1.drew) A0.out hb1)
  have C1 := Hid.mk (blk_below (w := w1.drew) A1.out hb1)
  clear hb1 x0 x1 x2 y2 y3 A0 A1 HB1 e3
  have x0 := blk_cell C0.out 0
  have x1 := blk_cell C0.out 1
  have x2 := blk_cell C0.out 2
  simp only [List.getElem?_toArray, List.getElem?_cons_zero, List.getElem?_cons_succ] at x0 x1 x2
  go_wp2_with fail
  refine (placeOfS b1 b2 b3 d1 d2 d3 I n _ (HI.out.below HB2.out) (by omega) (by omega) HN.out.2.1 HN.out.2.2).mono ?_
  rintro e w4 ⟨rfl, hb⟩
  rw [HPL.out.1, HPL.out.2.1, HPL.out.2.2]
  have HB4 := Hid.mk (below_then HB2.out hb)
  have D0 := Hid.mk (blk_below C0.out hb)
  have D1 := Hid.mk (blk_below C1.out hb)
  clear hb x0 x1 x2 C0 C1 HB2
  have e4 : max o ar = tm := HTM.out.symm
  have hl4 := HB4.out.size
  have hq1 := blk_lt D1.out
  have x0 := blk_cell D0.out 0
  have x1 := blk_cell D0.out 1
  have x2 := blk_cell D0.out 2
  simp only [List.getElem?_toArray, List.getElem?_cons_zero, List.getElem?_cons_succ] at x0 x1 x2
  go_upto_region 5 with (go_at_call 116; refine (maxS _ _ _).mono ?_; rintro e w5 ⟨rfl, rfl⟩)
  obtain ⟨X, hX⟩ : ∃ X, X = w4.alloc (.cells #[.int .i64 (plOf I n).x, .int .i64 (plOf I n).y, .int .i64 o, .int .i64 c, .int .i64 h] 79) := ⟨_, rfl⟩
  rw [← hX]
  have E0 := Hid.mk (blk_alloc D0.out (.cells #[.int .i64 (plOf I n).x, .int .i64 (plOf I n).y, .int .i64 o, .int .i64 c, .int .i64 h] 79))
  have E1 := Hid.mk (blk_alloc D1.out (.cells #[.int .i64 (plOf I n).x, .int .i64 (plOf I n).y, .int .i64 o, .int .i64 c, .int .i64 h] 79))
  have EP := Hid.mk (blk_new w4 (.cells #[.int .i64 (plOf I n).x, .int .i64 (plOf I n).y, .int .i64 o, .int .i64 c, .int .i64 h] 79))
  have HBX := Hid.mk (HB4.out.alloc HB4.out.size (.cells #[.int .i64 (plOf I n).x, .int .i64 (plOf I n).y, .int .i64 o, .int .i64 c, .int .i64 h] 79))
  rw [← hX] at E0 E1 EP HBX
  clear hX x0 x1 x2 D0 D1 HB4 e4 hq1
  have x0 := blk_cell E0.out 0
  have x1 := blk_cell E0.out 1
  have x2 := blk_cell E0.out 2
  simp only [List.getElem?_toArray, List.getElem?_cons_zero, List.getElem?_cons_succ] at x0 x1 x2
  go_wp2_with fail
  refine (pickS b1 b2 b3 d1 d2 d3 I n _ h1 h2).mono ?_
  rintro e w6 ⟨rfl, hb⟩
  skip
  have E0 := Hid.mk (blk_below E0.out hb)
  have E1 := Hid.mk (blk_below E1.out hb)
  have EP := Hid.mk (blk_below EP.out hb)
  have HBX := Hid.mk (below_then HBX.out hb)
  clear hb x0 x1 x2
  go_upto_region 6 with (go_at_call 96; refine (bitS _ _).mono ?_; rintro e w' ⟨rfl, rfl⟩; rw [HPD.out.1])
  have x0 := blk_cell E0.out 0
  have x1 := blk_cell E0.out 1
  have x2 := blk_cell E0.out 2
  simp only [List.getElem?_toArray, List.getElem?_cons_zero, List.getElem?_cons_succ] at x0 x1 x2
  go_wp2_with fail
  refine (dropS b1 b2 b3 d1 d2 d3 I n _ h1 h2).mono ?_
  rintro e w7 ⟨rfl, hb⟩
  skip
  have E0 := Hid.mk (blk_below E0.out hb)
  have E1 := Hid.mk (blk_below E1.out hb)
  have EP := Hid.mk (blk_below EP.out hb)
  have HBX := Hid.mk (below_then HBX.out hb)
  clear hb x0 x1 x2
  go_upto_region 7 with (go_at_call 96; refine (bitS _ _).mono ?_; rintro e w' ⟨rfl, rfl⟩; rw [HPD.out.2])
  have x0 := blk_cell E0.out 0
  have x1 := blk_cell E0.out 1
  have x2 := blk_cell E0.out 2
  simp only [List.getElem?_toArray, List.getElem?_cons_zero, List.getElem?_cons_succ] at x0 x1 x2
  go_wp2_with fail
  refine (sizeS b1 b2 b3 d1 d2 d3 I n _ (HI.out.below HBX.out) h1 h2).mono ?_
  rintro e w8 ⟨rfl, hb⟩
  rw [HSZ.out]
  have E0 := Hid.mk (blk_below E0.out hb)
  have E1 := Hid.mk (blk_below E1.out hb)
  have EP := Hid.mk (blk_below EP.out hb)
  have HBX := Hid.mk (below_then HBX.out hb)
  clear hb x0 x1 x2
  go_upto_region 8 with fail
  rcases (HI.out.below HBX.out).v with h0 | ⟨gv, ov, rfl, hvv⟩
  · omega
  have hrow := Hid.mk (hvv v hv)
  clear hvv
  have hv0 : (0 : Int) ≤ (v : Int) := by omega
  have hv1 : (v : Int) < (I.nV : Int) := by omega
  obtain ⟨k0, -⟩ := Veh.at hrow.out
  rw [← HRM.out] at k0
  have z0 := blk_cell E0.out 0
  have p0 := blk_cell E1.out 0
  have p4 := blk_cell E1.out 4
  have p5 := blk_cell E1.out 5
  have q2 := blk_cell EP.out 2
  have q3 := blk_cell EP.out 3
  have q4 := blk_cell EP.out 4
  simp only [List.getElem?_toArray, List.getElem?_cons_zero, List.getElem?_cons_succ] at z0 p0 p4 p5 q2 q3 q4
  clear hrow E0 E1 EP
  refine wp_region_held_drew (S := (fun w' => w'.cell? ⟨w.heap.size, 0, none⟩ = some (.slice (some ⟨gv, ov, none⟩) I.nV d1) ∧ w'.cell? ⟨w.heap.size + 1, 0, none⟩ = some (.int .i64 po) ∧ w'.cell? ⟨w.heap.size + 1, 4, none⟩ = some (.int .i64 di) ∧ w'.cell? ⟨w.heap.size + 1, 5, none⟩ = some (.int .i64 lo) ∧ w'.cell? ⟨w4.heap.size, 2, none⟩ = some (.int .i64 o) ∧ w'.cell? ⟨w4.heap.size, 3, none⟩ = some (.int .i64 c) ∧ w'.cell? ⟨w4.heap.size, 4, none⟩ = some (.int .i64 h) ∧ w'.cell? ⟨gv, ov + v * 7, none⟩ = some (.int .i64 rm))) (by kernel_rfl) ?_ (fun hHeld => ?_)
  · exact ⟨z0, p0, p4, p5, q2, q3, q4, k0⟩
  refine wpAnyH_take (i := 0) (v := ?_) rfl (by kernel_rfl) (by kernel_rfl) (by kernel_rfl) (fun _ _ _ h => h) (Or.inl ⟨by rfl, ?_⟩) (by assumption) ?_
  rotate_left
  · intro w hSw; (try dsimp only at hSw); go_simp; (try with_reducible rfl)
  rotate_left
  simp only [Act.put, List.setIfInBounds_toArray, List.set_cons_zero, List.set_cons_succ, List.getElem_toArray, List.getElem_cons_zero, List.getElem_cons_succ]
  refine wpAnyH_take (i := 1) (v := ?_) rfl (by kernel_rfl) (by kernel_rfl) (by kernel_rfl) (fun _ _ _ h => h) (Or.inl ⟨by rfl, ?_⟩) (by assumption) ?_
  rotate_left
  · intro w hSw; (try dsimp only at hSw); go_simp; (try with_reducible rfl)
  rotate_left
  simp only [Act.put, List.setIfInBounds_toArray, List.set_cons_zero, List.set_cons_succ, List.getElem_toArray, List.getElem_cons_zero, List.getElem_cons_succ]
  refine wpAnyH_take (i := 2) (v := ?_) rfl (by kernel_rfl) (by kernel_rfl) (by kernel_rfl) (fun _ _ _ h => h) (Or.inl ⟨by rfl, ?_⟩) (by assumption) ?_
  rotate_left
  · intro w hSw; (try dsimp only at hSw); go_simp; (try with_reducible rfl)
  rotate_left
  simp only [Act.put, List.setIfInBounds_toArray, List.set_cons_zero, List.set_cons_succ, List.getElem_toArray, List.getElem_cons_zero, List.getElem_cons_succ]
  refine wpAnyH_take (i := 3) (v := ?_) rfl (by kernel_rfl) (by kernel_rfl) (by kernel_rfl) (fun _ _ _ h => h) (Or.inl ⟨by rfl, ?_⟩) (by assumption) ?_
  rotate_left
  · intro w hSw; (try dsimp only at hSw); go_simp; (try with_reducible rfl)
  rotate_left
  simp only [Act.put, List.setIfInBounds_toArray, List.set_cons_zero, List.set_cons_succ, List.getElem_toArray, List.getElem_cons_zero, List.getElem_cons_succ]
  refine wpAnyH_take (i := 4) (v := ?_) rfl (by kernel_rfl) (by kernel_rfl) (by kernel_rfl) (fun _ _ _ h => h) (Or.inl ⟨by rfl, ?_⟩) (by assumption) ?_
  rotate_left
  · intro w hSw; (try dsimp only at hSw); go_simp; (try with_reducible rfl)
  rotate_left
  simp only [Act.put, List.setIfInBounds_toArray, List.set_cons_zero, List.set_cons_succ, List.getElem_toArray, List.getElem_cons_zero, List.getElem_cons_succ]
  refine wpAnyH_take (i := 6) (v := ?_) rfl (by kernel_rfl) (by kernel_rfl) (by kernel_rfl) (fun _ _ _ h => h) (Or.inl ⟨by rfl, ?_⟩) (by assumption) ?_
  rotate_left
  · intro w hSw; (try dsimp only at hSw); go_simp; (try with_reducible rfl)
  rotate_left
  simp only [Act.put, List.setIfInBounds_toArray, List.set_cons_zero, List.set_cons_succ, List.getElem_toArray, List.getElem_cons_zero, List.getElem_cons_succ]
  refine wpAnyH_take (i := 7) (v := ?_) rfl (by kernel_rfl) (by kernel_rfl) (by kernel_rfl) (fun _ _ _ h => h) (Or.inl ⟨by rfl, ?_⟩) (by assumption) ?_
  rotate_left
  · intro w hSw; (try dsimp only at hSw); go_simp; (try with_reducible rfl)
  rotate_left
  simp only [Act.put, List.setIfInBounds_toArray, List.set_cons_zero, List.set_cons_succ, List.getElem_toArray, List.getElem_cons_zero, List.getElem_cons_succ]
  refine wpAnyH_take (i := 8) (v := ?_) rfl (by kernel_rfl) (by kernel_rfl) (by kernel_rfl) (fun _ _ _ h => h) (Or.inl ⟨by rfl, ?_⟩) (by assumption) ?_
  rotate_left
  · intro w hSw; (try dsimp only at hSw); go_simp; (try with_reducible rfl)
  rotate_left
  simp only [Act.put, List.setIfInBounds_toArray, List.set_cons_zero, List.set_cons_succ, List.getElem_toArray, List.getElem_cons_zero, List.getElem_cons_succ]
  refine wpAnyH_take (i := 10) (v := ?_) rfl (by kernel_rfl) (by kernel_rfl) (by kernel_rfl) (fun _ _ _ h => h) (Or.inl ⟨by rfl, ?_⟩) (by assumption) ?_
  rotate_left
  · intro w hSw; (try dsimp only at hSw); go_simp; (try with_reducible rfl)
  rotate_left
  simp only [Act.put, List.setIfInBounds_toArray, List.set_cons_zero, List.set_cons_succ, List.getElem_toArray, List.getElem_cons_zero, List.getElem_cons_succ]
  refine wpAnyH_take (i := 11) (v := ?_) rfl (by kernel_rfl) (by kernel_rfl) (by kernel_rfl) (fun _ _ _ h => h) (Or.inl ⟨by rfl, ?_⟩) (by assumption) ?_
  rotate_left
  · intro w hSw; (try dsimp only at hSw); go_simp; (try with_reducible rfl)
  rotate_left
  simp only [Act.put, List.setIfInBounds_toArray, List.set_cons_zero, List.set_cons_succ, List.getElem_toArray, List.getElem_cons_zero, List.getElem_cons_succ]
  refine wpAnyH_take (i := 12) (v := ?_) rfl (by kernel_rfl) (by kernel_rfl) (by kernel_rfl) (fun _ _ _ h => h) (Or.inl ⟨by rfl, ?_⟩) (by assumption) ?_
  rotate_left
  · intro w hSw; (try dsimp only at hSw); go_simp; (try with_reducible rfl)
  rotate_left
  simp only [Act.put, List.setIfInBounds_toArray, List.set_cons_zero, List.set_cons_succ, List.getElem_toArray, List.getElem_cons_zero, List.getElem_cons_succ]
  refine wpAnyH_take (i := 13) (v := ?_) rfl (by kernel_rfl) (by kernel_rfl) (by kernel_rfl) (fun _ _ _ h => h) (Or.inl ⟨by rfl, ?_⟩) (by assumption) ?_
  rotate_left
  · intro w hSw; (try dsimp only at hSw); go_simp; (try with_reducible rfl)
  rotate_left
  simp only [Act.put, List.setIfInBounds_toArray, List.set_cons_zero, List.set_cons_succ, List.getElem_toArray, List.getElem_cons_zero, List.getElem_cons_succ]
  refine wpAnyH_take (i := 14) (v := ?_) rfl (by kernel_rfl) (by kernel_rfl) (by kernel_rfl) (fun _ _ _ h => h) (Or.inl ⟨by rfl, ?_⟩) (by assumption) ?_
  rotate_left
  · intro w hSw; (try dsimp only at hSw); go_simp; (try with_reducible rfl)
  rotate_left
  simp only [Act.put, List.setIfInBounds_toArray, List.set_cons_zero, List.set_cons_succ, List.getElem_toArray, List.getElem_cons_zero, List.getElem_cons_succ]
  refine wpAnyH_take (i := 15) (v := ?_) rfl (by kernel_rfl) (by kernel_rfl) (by kernel_rfl) (fun _ _ _ h => h) (Or.inl ⟨by rfl, ?_⟩) (by assumption) ?_
  rotate_left
  · intro w hSw; (try dsimp only at hSw); go_simp; (try with_reducible rfl)
  rotate_left
  simp only [Act.put, List.setIfInBounds_toArray, List.set_cons_zero, List.set_cons_succ, List.getElem_toArray, List.getElem_cons_zero, List.getElem_cons_succ]
  refine wpAnyH_take (i := 16) (v := ?_) rfl (by kernel_rfl) (by kernel_rfl) (by kernel_rfl) (fun _ _ _ h => h) (Or.inl ⟨by rfl, ?_⟩) (by assumption) ?_
  rotate_left
  · intro w hSw; (try dsimp only at hSw); go_simp; (try with_reducible rfl)
  rotate_left
  simp only [Act.put, List.setIfInBounds_toArray, List.set_cons_zero, List.set_cons_succ, List.getElem_toArray, List.getElem_cons_zero, List.getElem_cons_succ]
  refine wpAnyH_take (i := 18) (v := ?_) rfl (by kernel_rfl) (by kernel_rfl) (by kernel_rfl) (fun _ _ _ h => h) (Or.inl ⟨by rfl, ?_⟩) (by assumption) ?_
  rotate_left
  · intro w hSw; (try dsimp only at hSw); go_simp; (try with_reducible rfl)
  rotate_left
  simp only [Act.put, List.setIfInBounds_toArray, List.set_cons_zero, List.set_cons_succ, List.getElem_toArray, List.getElem_cons_zero, List.getElem_cons_succ]
  refine wpAnyH_take (i := 19) (v := ?_) rfl (by kernel_rfl) (by kernel_rfl) (by kernel_rfl) (fun _ _ _ h => h) (Or.inl ⟨by rfl, ?_⟩) (by assumption) ?_
  rotate_left
  · intro w hSw; (try dsimp only at hSw); go_simp; (try with_reducible rfl)
  rotate_left
  simp only [Act.put, List.setIfInBounds_toArray, List.set_cons_zero, List.set_cons_succ, List.getElem_toArray, List.getElem_cons_zero, List.getElem_cons_succ]
  refine wpAnyH_take (i := 20) (v := ?_) rfl (by kernel_rfl) (by kernel_rfl) (by kernel_rfl) (fun _ _ _ h => h) (Or.inl ⟨by rfl, ?_⟩) (by assumption) ?_
  rotate_left
  · intro w hSw; (try dsimp only at hSw); go_simp; (try with_reducible rfl)
  rotate_left
  simp only [Act.put, List.setIfInBounds_toArray, List.set_cons_zero, List.set_cons_succ, List.getElem_toArray, List.getElem_cons_zero, List.getElem_cons_succ]
  refine wpAnyH_take (i := 21) (v := ?_) rfl (by kernel_rfl) (by kernel_rfl) (by kernel_rfl) (fun _ _ _ h => h) (Or.inl ⟨by rfl, ?_⟩) (by assumption) ?_
  rotate_left
  · intro w hSw; (try dsimp only at hSw); go_simp; (try with_reducible rfl)
  rotate_left
  simp only [Act.put, List.setIfInBounds_toArray, List.set_cons_zero, List.set_cons_succ, List.getElem_toArray, List.getElem_cons_zero, List.getElem_cons_succ]
  refine wpAnyH_take (i := 22) (v := ?_) rfl (by kernel_rfl) (by kernel_rfl) (by kernel_rfl) (fun _ _ _ h => h) (Or.inl ⟨by rfl, ?_⟩) (by assumption) ?_
  rotate_left
  · intro w hSw; (try dsimp only at hSw); go_simp; (try with_reducible rfl)
  rotate_left
  simp only [Act.put, List.setIfInBounds_toArray, List.set_cons_zero, List.set_cons_succ, List.getElem_toArray, List.getElem_cons_zero, List.getElem_cons_succ]
  refine wpAnyH_take (i := 23) (v := ?_) rfl (by kernel_rfl) (by kernel_rfl) (by kernel_rfl) (fun _ _ _ h => h) (Or.inl ⟨by rfl, ?_⟩) (by assumption) ?_
  rotate_left
  · intro w hSw; (try dsimp only at hSw); go_simp; (try with_reducible rfl)
  rotate_left
  simp only [Act.put, List.setIfInBounds_toArray, List.set_cons_zero, List.set_cons_succ, List.getElem_toArray, List.getElem_cons_zero, List.getElem_cons_succ]
  refine wpAnyH_take (i := 24) (v := ?_) rfl (by kernel_rfl) (by kernel_rfl) (by kernel_rfl) (fun _ _ _ h => h) (Or.inl ⟨by rfl, ?_⟩) (by assumption) ?_
  rotate_left
  · intro w hSw; (try dsimp only at hSw); go_simp; (try with_reducible rfl)
  rotate_left
  simp only [Act.put, List.setIfInBounds_toArray, List.set_cons_zero, List.set_cons_succ, List.getElem_toArray, List.getElem_cons_zero, List.getElem_cons_succ]
  refine wpAnyH_take (i := 25) (v := ?_) rfl (by kernel_rfl) (by kernel_rfl) (by kernel_rfl) (fun _ _ _ h => h) (Or.inl ⟨by rfl, ?_⟩) (by assumption) ?_
  rotate_left
  · intro w hSw; (try dsimp only at hSw); go_simp; (try with_reducible rfl)
  rotate_left
  simp only [Act.put, List.setIfInBounds_toArray, List.set_cons_zero, List.set_cons_succ, List.getElem_toArray, List.getElem_cons_zero, List.getElem_cons_succ]
  refine wpAnyH_take (i := 26) (v := ?_) rfl (by kernel_rfl) (by kernel_rfl) (by kernel_rfl) (fun _ _ _ h => h) (Or.inl ⟨by rfl, ?_⟩) (by assumption) ?_
  rotate_left
  · intro w hSw; (try dsimp only at hSw); go_simp; (try with_reducible rfl)
  rotate_left
  simp only [Act.put, List.setIfInBounds_toArray, List.set_cons_zero, List.set_cons_succ, List.getElem_toArray, List.getElem_cons_zero, List.getElem_cons_succ]
  refine wpAnyH_take (i := 27) (v := ?_) rfl (by kernel_rfl) (by kernel_rfl) (by kernel_rfl) (fun _ _ _ h => h) (Or.inl ⟨by rfl, ?_⟩) (by assumption) ?_
  rotate_left
  · intro w hSw; (try dsimp only at hSw); go_simp; (try with_reducible rfl)
  rotate_left
  simp only [Act.put, List.setIfInBounds_toArray, List.set_cons_zero, List.set_cons_succ, List.getElem_toArray, List.getElem_cons_zero, List.getElem_cons_succ]
  refine wpAnyH_take (i := 28) (v := ?_) rfl (by kernel_rfl) (by kernel_rfl) (by kernel_rfl) (fun _ _ _ h => h) (Or.inl ⟨by rfl, ?_⟩) (by assumption) ?_
  rotate_left
  · intro w hSw; (try dsimp only at hSw); go_simp; (try with_reducible rfl)
  rotate_left
  simp only [Act.put, List.setIfInBounds_toArray, List.set_cons_zero, List.set_cons_succ, List.getElem_toArray, List.getElem_cons_zero, List.getElem_cons_succ]
  refine wpAnyH_take (i := 29) (v := ?_) rfl (by kernel_rfl) (by kernel_rfl) (by kernel_rfl) (fun _ _ _ h => h) (Or.inl ⟨by rfl, ?_⟩) (by assumption) ?_
  rotate_left
  · intro w hSw; (try dsimp only at hSw); go_simp; (try with_reducible rfl)
  rotate_left
  simp only [Act.put, List.setIfInBounds_toArray, List.set_cons_zero, List.set_cons_succ, List.getElem_toArray, List.getElem_cons_zero, List.getElem_cons_succ]
  refine wpAnyH_take (i := 30) (v := ?_) rfl (by kernel_rfl) (by kernel_rfl) (by kernel_rfl) (fun _ _ _ h => h) (Or.inl ⟨by rfl, ?_⟩) (by assumption) ?_
  rotate_left
  · intro w hSw; (try dsimp only at hSw); go_simp; (try with_reducible rfl)
  rotate_left
  simp only [Act.put, List.setIfInBounds_toArray, List.set_cons_zero, List.set_cons_succ, List.getElem_toArray, List.getElem_cons_zero, List.getElem_cons_succ]
  refine wpAnyH_take (i := 31) (v := ?_) rfl (by kernel_rfl) (by kernel_rfl) (by kernel_rfl) (fun _ _ _ h => h) (Or.inl ⟨by rfl, ?_⟩) (by assumption) ?_
  rotate_left
  · intro w hSw; (try dsimp only at hSw); go_simp; (try with_reducible rfl)
  rotate_left
  simp only [Act.put, List.setIfInBounds_toArray, List.set_cons_zero, List.set_cons_succ, List.getElem_toArray, List.getElem_cons_zero, List.getElem_cons_succ]
  refine wpAnyH_take (i := 32) (v := ?_) rfl (by kernel_rfl) (by kernel_rfl) (by kernel_rfl) (fun _ _ _ h => h) (Or.inl ⟨by rfl, ?_⟩) (by assumption) ?_
  rotate_left
  · intro w hSw; (try dsimp only at hSw); go_simp; (try with_reducible rfl)
  rotate_left
  simp only [Act.put, List.setIfInBounds_toArray, List.set_cons_zero, List.set_cons_succ, List.getElem_toArray, List.getElem_cons_zero, List.getElem_cons_succ]
  refine wpAnyH_take (i := 33) (v := ?_) rfl (by kernel_rfl) (by kernel_rfl) (by kernel_rfl) (fun _ _ _ h => h) (Or.inl ⟨by rfl, ?_⟩) (by assumption) ?_
  rotate_left
  · intro w hSw; (try dsimp only at hSw); go_simp; (try with_reducible rfl)
  rotate_left
  simp only [Act.put, List.setIfInBounds_toArray, List.set_cons_zero, List.set_cons_succ, List.getElem_toArray, List.getElem_cons_zero, List.getElem_cons_succ]
  refine wpAnyH_take (i := 34) (v := ?_) rfl (by kernel_rfl) (by kernel_rfl) (by kernel_rfl) (fun _ _ _ h => h) (Or.inl ⟨by rfl, ?_⟩) (by assumption) ?_
  rotate_left
  · intro w hSw; (try dsimp only at hSw); go_simp; (try with_reducible rfl)
  rotate_left
  simp only [Act.put, List.setIfInBounds_toArray, List.set_cons_zero, List.set_cons_succ, List.getElem_toArray, List.getElem_cons_zero, List.getElem_cons_succ]
  refine wpAnyH_take (i := 35) (v := ?_) rfl (by kernel_rfl) (by kernel_rfl) (by kernel_rfl) (fun _ _ _ h => h) (Or.inl ⟨by rfl, ?_⟩) (by assumption) ?_
  rotate_left
  · intro w hSw; (try dsimp only at hSw); go_simp; (try with_reducible rfl)
  rotate_left
  simp only [Act.put, List.setIfInBounds_toArray, List.set_cons_zero, List.set_cons_succ, List.getElem_toArray, List.getElem_cons_zero, List.getElem_cons_succ]
  refine wpAnyH_ready (rs := [5]) (by kernel_rfl) (by simp) ?_
  refine AllReadyH.cons rfl (fun K hK => ?_) ?_
  · go_simp
    refine (addS _ _ _).mono ?_
    rintro e w9 ⟨rfl, rfl⟩
    refine hK.out _ _ ?_ (fun hHeld => ?_)
    · go_keep
    clear hK K
    (try simp only [Act.put, List.setIfInBounds_toArray, List.set_cons_zero, List.set_cons_succ, List.getElem_toArray, List.getElem_cons_zero, List.getElem_cons_succ])
    refine wpAnyH_ready (rs := [9]) (by kernel_rfl) (by simp) ?_
    refine AllReadyH.cons rfl (fun K hK => ?_) ?_
    · go_simp
      refine (addS _ _ _).mono ?_
      rintro e w9 ⟨rfl, rfl⟩
      refine hK.out _ _ ?_ (fun hHeld => ?_)
      · go_keep
      clear hK K
      (try simp only [Act.put, List.setIfInBounds_toArray, List.set_cons_zero, List.set_cons_succ, List.getElem_toArray, List.getElem_cons_zero, List.getElem_cons_succ])
      refine wpAnyH_ready (rs := [17]) (by kernel_rfl) (by simp) ?_
      refine AllReadyH.cons rfl (fun K hK => ?_) ?_
      · go_simp
        refine (addS _ _ _).mono ?_
        rintro e w9 ⟨rfl, rfl⟩
        refine hK.out _ _ ?_ (fun hHeld => ?_)
        · go_keep
        clear hK K
        (try simp only [Act.put, List.setIfInBounds_toArray, List.set_cons_zero, List.set_cons_succ, List.getElem_toArray, List.getElem_cons_zero, List.getElem_cons_succ])
        refine wpAnyH_ready (rs := [36]) (by kernel_rfl) (by simp) ?_
        refine AllReadyH.cons rfl (fun K hK => ?_) ?_
        · go_simp
          refine hK.out _ _ ?_ (fun hHeld => ?_)
          · go_keep
          clear hK K
          (try simp only [Act.put, List.setIfInBounds_toArray, List.set_cons_zero, List.set_cons_succ, List.getElem_toArray, List.getElem_cons_zero, List.getElem_cons_succ])
          refine wpAnyH_ready (rs := [37]) (by kernel_rfl) (by simp) ?_
          refine AllReadyH.cons rfl (fun K hK => ?_) ?_
          · go_simp
            refine hK.out _ _ ?_ (fun hHeld => ?_)
            · go_keep
            clear hK K
            (try simp only [Act.put, List.setIfInBounds_toArray, List.set_cons_zero, List.set_cons_succ, List.getElem_toArray, List.getElem_cons_zero, List.getElem_cons_succ])
            refine wpAnyH_done (by kernel_rfl) ?_ _
            go_wp2
            go_ret
            refine ⟨w8.heap.size, rfl, li_icells (t := 2) (fr := (0, 0)) (l := [tm, lg, sadd tm (-ar), sadd di lg, sadd lo ((pk - dp) * sz), sz, o, c, h, rm, po + 1, pk, dp]) ?_, ?_, HBX.out.size⟩
            · exact blk_new w8.drew _
            · exact HBX.out.drew.alloc HBX.out.size _
          exact AllReadyH.nil
        exact AllReadyH.nil
      exact AllReadyH.nil
    exact AllReadyH.nil
  exact AllReadyH.nil
end Go.Proofs.YtgooegcmgejfpaaGreatDoor.Mac
