import Derived.Test.YtefkdpppcjlflaaGreatDoorIt41
import Derived.Test.YtefkdpppcjlflaaGreatDoorIt44
import Derived.Test.YtefkdpppcjlflaaGreatDoorIt40
import Derived.Test.YtefkdpppcjlflaaGreatDoorIt45
import Derived.Test.YtefkdpppcjlflaaGreatDoorCards
import Derived.Test.YtefkdpppcjlflaaGreatDoorTie
import Derived.WalkKit
import Derived.ProofKit
import Derived.OpenShut
import Derived.ShutString
import Derived.ChangeOld
import Derived.Below
import Derived.ChangeSlices
import Derived.Deep.DeepHandedRow
import Derived.LaidLaws
import Derived.Lib.LaidTab
import Derived.LaidHandle
import Derived.Stop.LaidErr
namespace Go.Proofs.YtefkdpppcjlflaaGreatDoor.Draw
open Go Go.RowKit Go.Proofs.YtefkdpppcjlflaaGreatDoor.Mem Go.Proofs.YtefkdpppcjlflaaGreatDoor.Parse Go.Proofs.YtefkdpppcjlflaaGreatDoor.Print
set_option linter.unusedVariables false
set_option linter.unusedSimpArgs false
attribute [local go_sem ↓] Go.wp_at_zero Go.wp_at_succ

theorem own_rd {B c : Nat} {w : World} {a : Option Addr} {bs : List UInt8} (h : Print.Own B w (.slice a bs.length c) bs) : Parse.Rd w a bs := by
  intro j hj
  obtain ⟨g, cap, e, -, hc⟩ := Print.Own.form h (by omega)
  injection e with e1 e2 e3
  refine ⟨g, 0, e1, ?_⟩
  have := hc j (.int .u8 (bs[j].toNat : Int)) (by simp [Lib.byteCells, hj])
  rw [Addr.add_lit] at this
  exact this
theorem text_len {I : In} (hv : Valid.validB I = true) (h1 : I.nV ≤ 3) (h2 : I.nQ ≤ 6) (h3 : I.nR ≤ 7) : (text I).length ≤ 300000 := by
  have h := good hv
  have r1 := rows_len (f := fun i => line (vehL (I.V i))) (n := I.nV) (fun i hi => line_len (by simp [vehL]) (vehL_small (h.v i hi)))
  have r2 := rows_len (f := fun i => line (reqL (I.Q i))) (n := I.nQ) (fun i hi => line_len (by simp [reqL]) (reqL_small (h.q i hi)))
  have r3 := rows_len (f := fun i => line (rdL (I.R i))) (n := I.nR) (fun i hi => line_len (by simp [rdL]) (rdL_small (h.r i hi)))
  unfold text rowsR rowsQ rowsV
  rw [List.length_append, List.length_append]
  omega

set_option maxHeartbeats 8000000 in
set_option maxRecDepth 1000000 in
theorem lawIT (a : Option Addr) (t : List UInt8) (n c : Nat) (w : World) (hn : n = t.length) (ht : Txt w.heap.size w (.slice a n c) t) (hT : Tab w.heap.size w)
    (hg : w.cell? ⟨0, 0, none⟩ = some (.iface 107 (.agg #[.pointer (some ⟨5, 60, none⟩)]))) :
    Calls Tryz.prog 3 #[.slice a n c] w fun e w' => e = .returned (.bool true) ∧ Below w.heap.size w w' := by
  have HN := Hid.mk hn
  have HX := Hid.mk ht
  have HT := Hid.mk hT
  have HG := Hid.mk hg
  clear hn ht hT hg
  by_cases hbig : 1048576 < n
  · have hb' : (1048576 : Int) < (n : Int) := by omega
    go_enter Tryz.func3, Tryz.ntmps3
    go_wp2
    go_ret
    exact ⟨rfl, Below.refl _ _⟩
  have hb' : decide ((1048576 : Int) < (n : Int)) = false := by simp; omega
  have hl : t.length ≤ 1048576 := by have := HN.out; omega
  obtain ⟨s, hs⟩ : ∃ s, s = dPrint t := ⟨_, rfl⟩
  have CD : Hid (∀ w', Txt w.heap.size w' (.slice a n c) t → w.heap.size ≤ w'.heap.size → Calls Tryz.prog 4 #[.slice a n c] w' fun e w'' => ∃ a1 a2 a3, e = .returned (.agg #[a1, a2, a3]) ∧ AccAt w'.heap.size w'' a1 a2 a3 s ∧ Below w'.heap.size w' w'') := fun w' h1 h2 => by rw [hs]; exact drawD w.heap.size _ t w' h2 h1 hl
  obtain ⟨q1, q2, q3⟩ : s.V.length ≤ 3 ∧ s.Q.length ≤ 6 ∧ s.R.length ≤ 7 := by rw [hs]; exact print_len t
  clear hs
  go_enter Tryz.func3, Tryz.ntmps3
  go_wp2_with fail
  refine (CD.out w HX.out (Nat.le_refl _)).mono ?_
  rintro e w1 ⟨v1, v2, v3, rfl, acc1, hb1⟩
  obtain ⟨a1, a2, a3, c1, c2, c3, rfl, rfl, rfl, hin⟩ := Draw.AccAt.shape acc1
  have HI := Hid.mk hin
  have HB1 := Hid.mk hb1
  clear acc1 hb1 hin
  obtain ⟨I, hI⟩ : ∃ I, I = inOf s := ⟨_, rfl⟩
  have i1 : s.V.length = I.nV := by rw [hI]; rfl
  have i2 : s.Q.length = I.nQ := by rw [hI]; rfl
  have i3 : s.R.length = I.nR := by rw [hI]; rfl
  have HE := Hid.mk hI
  rw [← hI] at HI
  rw [i1] at q1 ⊢
  rw [i2] at q2 ⊢
  rw [i3] at q3 ⊢
  have HL := Hid.mk (And.intro i1 (And.intro i2 i3))
  clear hI i1 i2 i3
  obtain ⟨W2, hW2⟩ : ∃ W, W = w1.alloc (.cells #[.slice a1 I.nV c1, .slice a2 I.nQ c2, .slice a3 I.nR c3] 27) := ⟨_, rfl⟩
  have A2 : Hid (Below w1.heap.size w1 W2) := by rw [hW2]; exact below_alloc' (Below.refl _ _) _
  have X2 : Hid (W2.heap[w1.heap.size]? = some (.cells #[.slice a1 I.nV c1, .slice a2 I.nQ c2, .slice a3 I.nR c3] 27)) := by rw [hW2]; exact blk_new _ _
  have HI2 : Hid (InAt W2 a1 a2 a3 I) := ⟨HI.out.v.below A2.out, HI.out.q.below A2.out, HI.out.r.below A2.out⟩
  have HB2 := Hid.mk (below_then HB1.out A2.out)
  clear HI HB1 A2
  go_wp2_with fail
  rw [← hW2]
  clear hW2
  refine (Valid.validS a1 a2 a3 c1 c2 c3 I W2 HI2.out (by omega) (by omega) (by omega)).mono ?_
  rintro e w3 ⟨rfl, hb3⟩
  have HB3 := Hid.mk (below_then HB2.out hb3)
  have X3 := Hid.mk (blk_below X2.out hb3)
  have HI3 : Hid (InAt w3 a1 a2 a3 I) := ⟨HI2.out.v.below hb3, HI2.out.q.below hb3, HI2.out.r.below hb3⟩
  clear hb3 X2 HI2 HB2
  have r0 := (blk_cell X3.out 0).trans (show _ = some (.slice a1 I.nV c1) from rfl)
  have r1 := (blk_cell X3.out 1).trans (show _ = some (.slice a2 I.nQ c2) from rfl)
  have r2 := (blk_cell X3.out 2).trans (show _ = some (.slice a3 I.nR c3) from rfl)
  have T3 : Hid (Tab w3.heap.size w3) := HT.out.up HB3.out HB3.out.size
  cases hv : Valid.validB I with
  | false =>
    go_wp2_with fail
    refine (printI a1 a2 a3 c1 c2 c3 I w3 HI3.out (by omega) (by omega) (by omega) T3.out).mono ?_
    rintro e w4 ⟨v, rfl, ho, hb4⟩
    unfold answer at ho
    rw [hv] at ho
    obtain ⟨az, cz, rfl, -⟩ := row_shape ho
    have HB4 := Hid.mk (below_then HB3.out hb4)
    clear ho hb4 r0 r1 r2
    go_wp2
    go_ret
    exact ⟨rfl, HB4.out⟩
  | true =>
    go_wp2_with fail
    refine (printI a1 a2 a3 c1 c2 c3 I w3 HI3.out (by omega) (by omega) (by omega) T3.out).mono ?_
    rintro e w4 ⟨v, rfl, ho, hb4⟩
    unfold answer at ho
    rw [hv, if_pos rfl] at ho
    obtain ⟨az, cz, rfl, hcz⟩ := row_shape ho
    have HO := Hid.mk ho
    have HB4 := Hid.mk (below_then HB3.out hb4)
    clear ho hb4 r0 r1 r2
    go_wp2_with fail
    have hlen : (text I).length ≤ 300000 := text_len hv (by omega) (by omega) (by omega)
    have RD : Rd w4 az (text I) := own_rd HO.out
    have hG : w4.cell? ⟨0, 0, none⟩ = some (.iface 107 (.agg #[.pointer (some ⟨5, 60, none⟩)])) := cell_keep HB4.out HG.out
    have CP := parseI az (text I) _ cz w4 rfl hcz RD (by omega) hG
    have HACC : Back.accOf I = s := by rw [HE.out]; exact acc_in s
    rw [Back.back hv hlen] at CP
    dsimp only at CP
    rw [HACC] at CP
    refine Calls.mono CP ?_
    rintro e w5 ⟨p1, p2, p3, rfl, acc5, hb5⟩
    obtain ⟨b1, b2, b3, d1, d2, d3, rfl, rfl, rfl, hin5⟩ := Draw.AccAt.shape acc5
    rw [← HE.out] at hin5
    rw [HL.out.1, HL.out.2.1, HL.out.2.2]
    have HI5 := Hid.mk hin5
    have HB5 := Hid.mk (below_then HB4.out hb5)
    clear hin5 acc5 hb5 hG CP RD hlen
    obtain ⟨W6, hW6⟩ : ∃ W, W = w5.alloc (.cells #[.int .i64 0, .int .i64 0, .slice b1 I.nV d1, .slice b2 I.nQ d2, .slice b3 I.nR d3] 32) := ⟨_, rfl⟩
    have A6 : Hid (Below w5.heap.size w5 W6) := by rw [hW6]; exact below_alloc' (Below.refl _ _) _
    have X6 : Hid (W6.heap[w5.heap.size]? = some (.cells #[.int .i64 0, .int .i64 0, .slice b1 I.nV d1, .slice b2 I.nQ d2, .slice b3 I.nR d3] 32)) := by rw [hW6]; exact blk_new _ _
    have HI6 : Hid (InAt W6 b1 b2 b3 I) := ⟨HI5.out.v.below A6.out, HI5.out.q.below A6.out, HI5.out.r.below A6.out⟩
    have HB6 := Hid.mk (below_then HB5.out A6.out)
    clear HI5 HB5 A6
    go_wp2_with fail
    rw [← hW6]
    clear hW6
    have y0 : W6.cell? ⟨w5.heap.size, 0, none⟩ = some (.int .i64 0) := (blk_cell X6.out 0).trans rfl
    have y1 : W6.cell? ⟨w5.heap.size, 1, none⟩ = some (.int .i64 0) := (blk_cell X6.out 1).trans rfl
    have y2 : W6.cell? ⟨w5.heap.size, 2, none⟩ = some (.slice b1 I.nV d1) := (blk_cell X6.out 2).trans rfl
    have y3 : W6.cell? ⟨w5.heap.size, 3, none⟩ = some (.slice b2 I.nQ d2) := (blk_cell X6.out 3).trans rfl
    have y4 : W6.cell? ⟨w5.heap.size, 4, none⟩ = some (.slice b3 I.nR d3) := (blk_cell X6.out 4).trans rfl
    have D6 : Hid (Below W6.heap.size W6 W6.drew) := (Below.refl _ _).drew
    have HD := Hid.mk (below_then HB6.out D6.out)
    have HI7 : Hid (InAt W6.drew b1 b2 b3 I) := ⟨HI6.out.v.below D6.out, HI6.out.q.below D6.out, HI6.out.r.below D6.out⟩
    have CE := Hid.mk (CD.out W6.drew (HX.out.below HD.out) HD.out.size)
    clear HX HT HG HI6 HB6 D6 CD HB4 HO T3 HI3 X3 HB3 X6
    go_region_held3 (fun w' => w'.cell? ⟨w5.heap.size, 0, none⟩ = some (.int .i64 0) ∧ w'.cell? ⟨w5.heap.size, 1, none⟩ = some (.int .i64 0) ∧ w'.cell? ⟨w5.heap.size, 2, none⟩ = some (.slice b1 I.nV d1) ∧ w'.cell? ⟨w5.heap.size, 3, none⟩ = some (.slice b2 I.nQ d2) ∧ w'.cell? ⟨w5.heap.size, 4, none⟩ = some (.slice b3 I.nR d3))
      (first | go_keep | ((repeat' constructor) <;> first | exact cell_keep hb8 (cell_keep hb7 (by first | assumption | (simp [*]; done))) | exact cell_keep hb7 (by first | assumption | (simp [*]; done))))
      ((first
        | (go_at_call 4; (with_reducible refine CE.out.mono ?_); rintro e w7 ⟨v1, v2, v3, rfl, acc7, hb7⟩; obtain ⟨e1, e2, e3, f1, f2, f3, rfl, rfl, rfl, hin7⟩ := Draw.AccAt.shape acc7; rw [← HE.out] at hin7; rw [HL.out.1, HL.out.2.1, HL.out.2.2]; have HJ : Hid (InAt w7 b1 b2 b3 I) := ⟨HI7.out.v.below hb7, HI7.out.q.below hb7, HI7.out.r.below hb7⟩; have HH := Hid.mk hin7; clear hin7 acc7)
        | (go_at_call 8; (with_reducible refine (lwI b1 b2 b3 e1 e2 e3 d1 d2 d3 f1 f2 f3 I _ HJ.out HH.out (by omega) (by omega) (by omega)).mono ?_); rintro e w8 ⟨rfl, hb8⟩)))
    have HZ := Hid.mk (below_then (below_then HD.out hb7) hb8)
    clear hb7 hb8 HJ HH
    go_wp2
    go_ret
    exact ⟨rfl, HZ.out⟩
end Go.Proofs.YtefkdpppcjlflaaGreatDoor.Draw
namespace Go.Proofs.YtefkdpppcjlflaaGreatDoor.fnInstText
open Go.ChangeShapes Go.WideShapes Go.ChangeAt Go.RowKit
set_option linter.unusedVariables false

theorem own : ownKnob Tryz.prog.godebug = none := by kernel_rfl
theorem laidOut : laidOutB Tryz.prog = true := by kernel_rfl
theorem gErr : Tryz.prog.globalNamed "errors.errorType" = some 0 := by kernel_rfl
theorem rtId : (Tryz.prog.cutTypes.find? (·.1 == "internal/reflectlite.rtype")).map (·.2) = some 107 := by kernel_rfl
theorem oneRow : ((List.range 187).filter fun t => Tryz.prog.rowNamed t [101, 114, 114, 111, 114]) = [60] := by kernel_rfl
theorem nTypes : Tryz.prog.types.size = 187 := by kernel_rfl
theorem cellsB : Tryz.prog.cellsOf 5 = 1 := by kernel_rfl

theorem gTab : Tryz.prog.globalNamed "internal/strconv.uint64pow10" = some 2 := by kernel_rfl
theorem gTabType : (Tryz.prog.globals[2]?).map (·.type) = some 146 := by kernel_rfl
theorem cellsTab : Tryz.prog.cellsOf 146 = 20 := by kernel_rfl
theorem cellsU64 : Tryz.prog.cellsOf 123 = 1 := by kernel_rfl
theorem tabIs : (Rows.laid_internal_strconv_uint64pow10 : DataW Unit) = Lib.tabData .u64 Lib.pow10Tab := by kernel_rfl

/-- What the row's list gives: the table of powers of ten. -/
theorem table {W : World} (h : laidMetH Tryz.prog Rows.fnInstTextRow.laid W) : Lib.TabIs Tryz.prog W "internal/strconv.uint64pow10" .u64 Lib.pow10Tab := by
  have h' : laidMet Tryz.prog [("math/bits.deBruijn32tab", Rows.laid_math_bits_deBruijn32tab), ("math/bits.deBruijn64tab", Rows.laid_math_bits_deBruijn64tab), ("internal/strconv.uint64pow10", Rows.laid_internal_strconv_uint64pow10)] W ∧ handlesMet Tryz.prog [("errors.errorType", Rows.laid_errors_errorType)] W := h
  have h1 := h'.1
  rw [tabIs] at h1
  exact Lib.tabIs_of_head (rest := []) gTab gTabType Tryz.underlying146 Tryz.underlying123 cellsU64 cellsTab h1.tail.tail
/-- What the row's list gives: the variable's one cell. -/
theorem handle {W : World} (h : laidMetH Tryz.prog Rows.fnInstTextRow.laid W) : W.cell? ⟨0, 0, none⟩ = some (.iface 107 (.agg #[.pointer (some ⟨5, 60, none⟩)])) := by
  have h' : laidMet Tryz.prog [("math/bits.deBruijn32tab", Rows.laid_math_bits_deBruijn32tab), ("math/bits.deBruijn64tab", Rows.laid_math_bits_deBruijn64tab), ("internal/strconv.uint64pow10", Rows.laid_internal_strconv_uint64pow10)] W ∧ handlesMet Tryz.prog [("errors.errorType", Rows.laid_errors_errorType)] W := h
  obtain ⟨name, u, ty, e1, e2, e3, e4, e5⟩ := h'.2 _ (List.mem_singleton.2 rfl)
  have en : name = [101, 114, 114, 111, 114] := (Option.some.inj e1).symm
  subst en
  obtain rfl := Option.some.inj (rtId.symm.trans e2)
  have hm : ty ∈ (List.range 187).filter fun t => Tryz.prog.rowNamed t [101, 114, 114, 111, 114] := List.mem_filter.2 ⟨List.mem_range.2 (by rw [← nTypes]; exact e3), e4⟩
  rw [oneRow] at hm
  obtain rfl := List.mem_singleton.1 hm
  have hh : typeHandle Tryz.prog 60 = .pointer (some ⟨5, 60, none⟩) := by kernel_rfl
  rw [hh] at e5
  simpa using World.var?_cell gErr e5 0

set_option maxRecDepth 100000 in
/-- Bytes that came in. -/
theorem bytes_in {H : Type} {enc : TypeId × Value → H} {W : World} {base : Nat} {v : Value} {d : DataW H} {p : List MemPlace} (hval : Value.okWide Tryz.prog W .any base 22 v) (h : DataW.Trod enc Tryz.prog W 0 (fun _ => true) true 22 v d p) :
    ∃ (a : Option Addr) (t : List UInt8) (n c : Nat), v = .slice a n c ∧ n = t.length ∧ Parse.Txt W.heap.size W (.slice a n c) t := by
  obtain ⟨a1, len, cap, rfl⟩ := okWide_slice Tryz.underlying22 hval
  obtain ⟨fuel, hf⟩ := h
  rcases open_ints Tryz.underlying22 Tryz.underlying5 cellsB hf with ⟨hcs, -⟩ | ⟨a, len', cap', zs, hcs, _, hl, hm, hz, -, hcell, hwz⟩
  · simp [Value.cells] at hcs
    obtain ⟨rfl, rfl, rfl⟩ := hcs
    exact ⟨none, [], 0, 0, rfl, rfl, none, 0, rfl, Nat.le_refl _, Or.inl ⟨rfl, rfl⟩⟩
  · simp [Value.cells] at hcs
    obtain ⟨rfl, rfl, rfl⟩ := hcs
    simp only [if_true] at hz
    have hlen : ((zs.take len).map fun n => UInt8.ofNat n.toNat).length = len := by simp; omega
    obtain ⟨ab, ao, spot⟩ := a
    have hspot : spot = none := by
      simp only [Value.okWide, Tryz.underlying22, Cell.okWide, Cell.ok] at hval
      simp [World.has] at hval
      first | exact hval.2.1 | (simp_all; done)
    subst hspot
    · refine ⟨some ⟨ab, ao, none⟩, (zs.take len).map fun n => UInt8.ofNat n.toNat, len, cap, rfl, hlen.symm, some ⟨ab, ao, none⟩, cap, by rw [hlen], by rw [hlen]; exact hl, Or.inr ⟨ab, ao, rfl, fun j hj => ?_⟩⟩
      rw [hlen] at hj
      have hcj := hcell j (by omega)
      rw [Addr.add_lit] at hcj
      refine ⟨Mem.lt_of_cell hcj, ?_⟩
      rw [hcj]
      have hr := range_u8 hwz j
      have hjz : j < zs.length := by omega
      simp only [List.getElem_map, List.getElem_take]
      have e : zs.getD j 0 = zs[j] := by simp [List.getD, hjz]
      have hr' : 0 ≤ zs[j] ∧ zs[j] ≤ 255 := by simpa [hjz] using hr
      rw [e]
      generalize zs[j] = z at hr'
      have hz : (z.toNat : Int) = z := Int.toNat_of_nonneg hr'.1
      have hm : z.toNat % 256 = z.toNat := Nat.mod_eq_of_lt (by omega)
      simp [hm, hz]

set_option maxRecDepth 100000 in
theorem contract (H : Type) (enc : TypeId × Value → H) (W : World) (base : Nat) (args : Array Value) (ds gs : List (DataW H)) (before : List MemPlace)
    (hval : ∀ (j : Nat) t v, Tryz.f3.params[j]? = some t → args[j]? = some v → Value.okWide Tryz.prog W .any base t v)
    (hW : DataW.Whole enc Tryz.prog Tryz.f3.params.toList Rows.fnInstTextSpec.vars false W args.toList ds gs before) (hL : laidMetH Tryz.prog Rows.fnInstTextRow.laid W) :
    Calls Tryz.prog 3 args W fun e W' => ∃ v, e = .returned v ∧ Rows.fnInstTextSpec.post enc Tryz.prog Tryz.f3 false true false false W args v W' := by
  have hW' := hW
  obtain ⟨p, q, hA0, hV, rfl, hfz, hnd⟩ := hW
  have hA : DataW.TrodAll enc Tryz.prog W 0 (fun _ => true) true Tryz.f3.params.toList args.toList ds p := hA0
  rw [Tryz.params3] at hA hval
  obtain ⟨v0, vs0, d0, ds0, p0, q0, hargs, rfl, rfl, h0, r0⟩ := trodAll_cons hA
  obtain ⟨rfl, rfl, rfl⟩ := trodAll_nil r0
  obtain rfl : args = #[v0] := by cases args; simp_all
  obtain ⟨rfl, rfl⟩ := trodVars_none hV
  have k0 := h0
  have lt0 : ∀ x ∈ p0, x.block < W.heap.size := by obtain ⟨m, hm⟩ := k0; exact DataW.trod_lt m _ _ _ hm
  obtain ⟨a, t, n, c, rfl, hn, hr⟩ := bytes_in (hval 0 22 v0 rfl rfl) h0
  clear hA0
  refine (Draw.lawIT a t n c W hn hr (Lib.tabBelow_of_tabIs (table hL)) (handle hL)).mono fun e W' ⟨he, bel⟩ => ?_
  subst he
  exact ⟨_, rfl, _, _, _, [], _, [], hW', trodAll_mk1 (shut_bool Tryz.underlying4 _), (trodAll_cons_mk (Below.trod laidOut (by kernel_rfl) (of_decide_eq_true (by kernel_rfl)) k0 bel lt0) trodAll_mk0), rfl, bel.frame _, fun h => by cases h⟩

def litCells : DataW Unit → Array Value
  | .agg l => (l.map fun
    | .lit (.int k z) => Value.int k z
    | _ => Value.bool false).toArray
  | _ => #[]
def setB (h : Array Obj) (i : Nat) (c : Array Value) : Array Obj := h.modify i fun
  | .cells _ t frozen => .cells c t frozen
  | o => o
/-- A world for the witness: the settled one, the three tables and the variable's cell laid. -/
noncomputable def laidWorld (os : Os) : World :=
  { World.holding Tryz.prog os ⟨#[], #[], []⟩ with heap := setB (setB (setB (setB (World.holding Tryz.prog os ⟨#[], #[], []⟩).heap 2 (litCells Rows.laid_internal_strconv_uint64pow10)) 3 (litCells Rows.laid_math_bits_deBruijn32tab)) 4 (litCells Rows.laid_math_bits_deBruijn64tab)) 0 #[.iface 107 (.agg #[.pointer (some ⟨5, 60, none⟩)])] }
theorem laid_met0 (os : Os) : laidMet Tryz.prog [("math/bits.deBruijn32tab", Rows.laid_math_bits_deBruijn32tab), ("math/bits.deBruijn64tab", Rows.laid_math_bits_deBruijn64tab), ("internal/strconv.uint64pow10", Rows.laid_internal_strconv_uint64pow10)] ((laidWorld os).forCall (fun _ _ => 0) ⟨#[], #[.slice none 0 0], []⟩).memory :=
  laidMet_of_run' 8 (by kernel_rfl) (by kernel_rfl)
theorem laid_met (os : Os) : laidMetH Tryz.prog Rows.fnInstTextRow.laid ((laidWorld os).forCall (fun _ _ => 0) ⟨#[], #[.slice none 0 0], []⟩).memory :=
  laidMetH_of_parts (laid_met0 os) (by kernel_rfl)
theorem reads (os : Os) {H : Type} (enc : TypeId × Value → H) : ∃ d places, DataW.whole enc Tryz.prog ((laidWorld os).forCall (fun _ _ => 0) ⟨#[], #[.slice none 0 0], []⟩).memory Tryz.f3.params.toList Rows.fnInstTextSpec.vars false #[Value.slice none 0 0].toList 8 = some ([d], [], places) :=
  ⟨.nil, [], by kernel_rfl⟩

set_option maxRecDepth 100000 in
theorem lifted (os : Os) (started : os.Started) (H : Type) (enc : TypeId × Value → H) (F : Stop.Interp) :
    ReturnsInHanded {} Tryz.checked os 3 .any ((OpenSpec.ofChange Rows.fnInstTextSpec).preRow enc Tryz.prog Tryz.f3 Rows.fnInstTextRow.domain false Rows.fnInstTextRow.laid) (((OpenSpec.ofChange Rows.fnInstTextSpec).at F).post enc Tryz.prog Tryz.f3 false true false false) := by
  obtain ⟨d, places, hx⟩ := reads os enc
  refine returnsInHanded_of_row (C := Tryz.checked) (s := OpenSpec.ofChange Rows.fnInstTextSpec) own started (by kernel_rfl) Tryz.func3
    (witness_row_at (enc := enc) (C := Tryz.checked) false (laidWorld os) #[.slice none 0 0] rfl (by kernel_rfl) (by kernel_rfl) (by kernel_rfl)
      (OpenSpec.preRow_of_cond 8 hx (by kernel_rfl) (fun k hk => by cases hk) (by kernel_rfl) (laid_met os))) ?_
  intro W base args ds gs before hval hW _ _ _ hL _ _
  exact contract H enc W base args ds gs before hval hW hL

theorem said : Rows.FnInstTextSaid :=
  OpenClaim.holds_of_cond 3 Tryz.f3 rfl rfl rfl rfl rfl rfl rfl ⟨rfl, rfl, rfl, rfl, rfl⟩ rfl rfl rfl rfl rfl (by kernel_rfl) Tryz.func3 (by kernel_rfl)
    (of_decide_eq_true (by kernel_rfl)) (by unfold Func.isWrapper; first | (rw [if_pos (by decide +kernel)]; kernel_rfl) | (rw [if_neg (by decide +kernel)]; exact ⟨rfl, rfl⟩))
    (fun os started H enc _ F => by rw [OpenClaim.pre_eq_preRow]; exact lifted os started H enc F)

/-- No parameter wants a stand-in; the program's own looks. -/
theorem plain (f : FuncId) (fn : Func) (hf : Tryz.pinned.checked.prog.funcNamed "loop.example/s0023/laws.FnInstText" = some f) (hfn : Tryz.pinned.checked.prog.funcs[f]? = some fn) :
    true = Tryz.pinned.checked.prog.looks [] ∧ ∀ (j : Nat) t, fn.params[j]? = some t → Tryz.pinned.checked.prog.wantsStandIn t = false := by
  obtain rfl : f = 3 := Option.some.inj ((show Tryz.prog.funcNamed "loop.example/s0023/laws.FnInstText" = some 3 by kernel_rfl).symm.trans hf) |>.symm
  obtain rfl : fn = Tryz.f3 := (Option.some.inj (Tryz.func3.symm.trans hfn)).symm
  refine ⟨by kernel_rfl, fun j t ht => ?_⟩
  rw [Tryz.params3] at ht
  obtain rfl : t = 22 := by simpa using Array.mem_of_getElem? ht
  exact (show Tryz.prog.wantsStandIn 22 = false by kernel_rfl)
end Go.Proofs.YtefkdpppcjlflaaGreatDoor.fnInstText
namespace Go.Proofs.YtefkdpppcjlflaaGreatDoor
theorem fnInstText_card : Rows.FnInstTextCardSaid :=
  Claim7.holds_tied_plain_at .later [] _ _ _ _ fnInstText.said (fun _ h => by cases h) (by kernel_rfl) (fun _ h => by cases h) fnInstText_row_tie rfl ⟨rfl, rfl⟩ (by kernel_rfl) rfl fnInstText.plain (by kernel_rfl)
#print axioms fnInstText_card
end Go.Proofs.YtefkdpppcjlflaaGreatDoor
