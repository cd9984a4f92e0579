import Derived.Test.YtgooegcmgejfpaaGreatDoorGr20
import Derived.Deep.DrawnRows
import Derived.Lib.QuietBelow
import Derived.Test.YtgooegcmgejfpaaGreatDoorGr02
import Derived.Deep.DeepCutAuto
namespace Go.Proofs.YtgooegcmgejfpaaGreatDoor.Travel
open Go Go.RowKit Go.Sort Go.Proofs.YtgooegcmgejfpaaGreatDoor.Mem Go.Proofs.YtgooegcmgejfpaaGreatDoor.Valid
set_option linter.unusedVariables false
attribute [local go_sem ↓] Go.wp_at_zero Go.wp_at_succ

set_option maxHeartbeats 40000000 in
set_option maxRecDepth 100000 in
theorem between (a1 a2 a3 : Option Addr) (c1 c2 c3 : Nat) (I : In) (a b : Int) (w : World) (h : InAt w a1 a2 a3 I) (hv : validB I = true) (na0 : 0 ≤ a) (na1 : a ≤ nodes I - 1) (nb0 : 0 ≤ b) (nb1 : b ≤ nodes I - 1) :
    Calls Tryz.prog 181 #[.agg #[.slice a1 I.nV c1, .slice a2 I.nQ c2, .slice a3 I.nR c3], .int .i64 a, .int .i64 b] w fun e w' => e = .returned (.int .i64 (legV I a b)) ∧ Below w.heap.size w w' := by
  have H := Hid.mk h
  have HV := Hid.mk hv
  obtain ⟨l1, l2, l3⟩ := lens_bd (validB_parts hv).1
  have HR := Hid.mk (validB_parts hv).2.2.2
  clear h hv
  by_cases hab : a = b
  · rw [leg_same hab]
    have hab' : (a == b) = true := by simpa using hab
    clear hab
    go_enter Tryz.func181, Tryz.ntmps181
    go_wp2
    go_ret
    exact ⟨rfl, by go_grown⟩
  have hab' : (a == b) = false := by simpa using hab
  have HAB := Hid.mk hab
  clear hab
  go_enter Tryz.func181, Tryz.ntmps181
  go_wp2_with fail
  refine (search a3 I.nR c3 I.R ⟨a, b, 0⟩ _ (H.out.r.below (by go_grown)) (by omega) (mono HR.out _)).mono ?_
  rintro e w1 ⟨i, rfl, hi, hlo, hhi, hb1⟩
  have HB1 := Hid.mk (below_then (w := w) (by go_grown) hb1)
  have A1 := Hid.mk (blk_below (blk_new w _) hb1)
  clear hb1
  have x0 := blk_cell A1.out 0
  have x1 := blk_cell A1.out 1
  have x2 := blk_cell A1.out 2
  simp only [List.getElem?_toArray, List.getElem?_cons_zero, List.getElem?_cons_succ] at x0 x1 x2
  by_cases hz : i < I.nR ∧ cmpR (I.R i) ⟨a, b, 0⟩ = 0
  · have hf : (decide (i < I.nR) && (cmpR (I.R i) ⟨a, b, 0⟩ == 0)) = true := by simp [hz.1, hz.2]
    rw [hf]
    obtain ⟨s1, s2⟩ := search_hit hlo hz.2
    have hl : Hid (legV I a b = (I.R i).t) := leg_hit HAB.out hz.1 s1 s2
    have hin := hz.1
    rcases H.out.r with hs | ⟨rb, off, rfl, hs⟩
    · omega
    obtain ⟨-, -, e2⟩ := Rd.at (rangeAt_below (hs i hin) HB1.out)
    have i0 : (0 : Int) ≤ (i : Int) := by omega
    have i1 : (i : Int) < (I.nR : Int) := by omega
    clear hz hf hlo hhi s1 s2 hs
    go_wp2
    go_ret
    exact ⟨congrArg (fun z => Ending.returned (.int .i64 z)) hl.out.symm, HB1.out⟩
  · have hf : (decide (i < I.nR) && (cmpR (I.R i) ⟨a, b, 0⟩ == 0)) = false := by
      by_cases hin : i < I.nR
      · simp [hin]; exact fun e => hz ⟨hin, e⟩
      · simp [hin]
    rw [hf]
    have hl : Hid (legV I a b = _) := leg_none HAB.out (search_none HR.out hlo hhi hz)
    obtain ⟨pa1, pa2, pa3, pa4⟩ := plOf_ok HV.out na0 na1
    obtain ⟨pb1, pb2, pb3, pb4⟩ := plOf_ok HV.out nb0 nb1
    clear hz hf hlo hhi
    have hB1 := HB1.out
    have z1 : w.heap.size < w1.heap.size := blk_lt A1.out
    have HIw : Hid (∀ W, Below w.heap.size w W → InAt W a1 a2 a3 I) := fun W hW => H.out.below hW
    have hom : ∀ n : Int, 0 ≤ n → n < I.nV → ∀ W, Below w.heap.size w W → Calls Tryz.prog 180 #[.agg #[.slice a1 I.nV c1, .slice a2 I.nQ c2, .slice a3 I.nR c3], .int .i64 n] W fun e w' => e = .returned (.agg #[.int .i64 (plOf I n).x, .int .i64 (plOf I n).y, .int .i64 (plOf I n).o, .int .i64 (plOf I n).c, .int .i64 (plOf I n).h]) ∧ w' = (W.alloc (.cells #[.slice a1 I.nV c1, .slice a2 I.nQ c2, .slice a3 I.nR c3] 44)).alloc (.cells #[.int .i64 (plOf I n).x, .int .i64 (plOf I n).y, .int .i64 (plOf I n).o, .int .i64 (plOf I n).c, .int .i64 (plOf I n).h] 79) :=
      fun n n0 hv W hW => placeHome a1 a2 a3 c1 c2 c3 I n W (H.out.below hW) (by omega) n0 hv
    have req : ∀ n : Int, (I.nV : Int) ≤ n → n ≤ nodes I - 1 → ∀ W, Below w.heap.size w W → Calls Tryz.prog 180 #[.agg #[.slice a1 I.nV c1, .slice a2 I.nQ c2, .slice a3 I.nR c3], .int .i64 n] W fun e w' => e = .returned (.agg #[.int .i64 (plOf I n).x, .int .i64 (plOf I n).y, .int .i64 (plOf I n).o, .int .i64 (plOf I n).c, .int .i64 (plOf I n).h]) ∧ w' = ((W.alloc (.cells #[.slice a1 I.nV c1, .slice a2 I.nQ c2, .slice a3 I.nR c3] 44)).alloc (.cells #[.int .i64 (plOf I n).x, .int .i64 (plOf I n).y, .int .i64 (plOf I n).o, .int .i64 (plOf I n).c, .int .i64 (plOf I n).h] 79)).alloc (qo I n) :=
      fun n hge n1 W hW => placeReq a1 a2 a3 c1 c2 c3 I n W (H.out.below hW) (by omega) (by omega) hge n1
    have HO := Hid.mk hom
    have RQ := Hid.mk req
    clear H HB1 HV HR hi HAB hab' hom req HIw
    go_upto_region 6 with fail
    go_cut [9, 10] (fun s9 s10 wx => ∃ g k : Nat, s9 = .pointer (some ⟨g, 0, none⟩) ∧ s10 = .pointer (some ⟨k, 0, none⟩) ∧ wx.cell? ⟨g, 0, none⟩ = some (.int .i64 (plOf I a).x) ∧ wx.cell? ⟨g, 1, none⟩ = some (.int .i64 (plOf I a).y) ∧ wx.cell? ⟨k, 0, none⟩ = some (.int .i64 (plOf I b).x) ∧ wx.cell? ⟨k, 1, none⟩ = some (.int .i64 (plOf I b).y) ∧ Hid (Below w.heap.size w wx))
    case first =>
      clear hl pa1 pa2 pa3 pa4 pb1 pb2 pb3 pb4
      by_cases hva : a < I.nV
      · have CA := Hid.mk (HO.out a na0 hva)
        by_cases hvb : b < I.nV
        · have CB := Hid.mk (HO.out b nb0 hvb)
          clear HO RQ na1 nb1
          go_region_held3 (fun w' => w'.cell? ⟨w.heap.size, 0, none⟩ = some (.slice a1 I.nV c1) ∧ w'.cell? ⟨w.heap.size, 1, none⟩ = some (.slice a2 I.nQ c2) ∧ w'.cell? ⟨w.heap.size, 2, none⟩ = some (.slice a3 I.nR c3))
            ((refine ⟨?_, ?_, ?_⟩ <;> (refine (blk_cell (cs := #[.slice a1 I.nV c1, .slice a2 I.nQ c2, .slice a3 I.nR c3]) (t := 44) (fr := (0, 0)) ?_ _).trans rfl; repeat' (first | exact A1.out | refine blk_alloc ?_ _ | refine blk_set_other ?_ (by simp; omega) _))))
            ((first | (go_at_call_of 180 (Value.int .i64 a); refine (CA.out _ ?hB).mono ?_; (case hB => repeat' (first | exact hB1 | refine Below.drew ?_ | refine below_alloc' ?_ _)); rintro e w2 ⟨rfl, rfl⟩) | (go_at_call_of 180 (Value.int .i64 b); refine (CB.out _ ?hB).mono ?_; (case hB => repeat' (first | exact hB1 | refine Below.drew ?_ | refine below_alloc' ?_ _)); rintro e w2 ⟨rfl, rfl⟩)))
          all_goals (go_wp2_with fail; go_meet)
          all_goals (refine ⟨_, _, rfl, rfl, ?_, ?_, ?_, ?_, ?_⟩)
          all_goals first | (go_simp; done) | (unfold Hid; go_grown; done)
        · have CB := Hid.mk (RQ.out b (by omega) nb1)
          clear HO RQ na1 nb1
          go_region_held3 (fun w' => w'.cell? ⟨w.heap.size, 0, none⟩ = some (.slice a1 I.nV c1) ∧ w'.cell? ⟨w.heap.size, 1, none⟩ = some (.slice a2 I.nQ c2) ∧ w'.cell? ⟨w.heap.size, 2, none⟩ = some (.slice a3 I.nR c3))
            ((refine ⟨?_, ?_, ?_⟩ <;> (refine (blk_cell (cs := #[.slice a1 I.nV c1, .slice a2 I.nQ c2, .slice a3 I.nR c3]) (t := 44) (fr := (0, 0)) ?_ _).trans rfl; repeat' (first | exact A1.out | refine blk_alloc ?_ _ | refine blk_set_other ?_ (by simp; omega) _))))
            ((first | (go_at_call_of 180 (Value.int .i64 a); refine (CA.out _ ?hB).mono ?_; (case hB => repeat' (first | exact hB1 | refine Below.drew ?_ | refine below_alloc' ?_ _)); rintro e w2 ⟨rfl, rfl⟩) | (go_at_call_of 180 (Value.int .i64 b); refine (CB.out _ ?hB).mono ?_; (case hB => repeat' (first | exact hB1 | refine Below.drew ?_ | refine below_alloc' ?_ _)); rintro e w2 ⟨rfl, rfl⟩)))
          all_goals (go_wp2_with fail; go_meet)
          all_goals (refine ⟨_, _, rfl, rfl, ?_, ?_, ?_, ?_, ?_⟩)
          all_goals first | (go_simp; done) | (unfold Hid; go_grown; done)
      · have CA := Hid.mk (RQ.out a (by omega) na1)
        by_cases hvb : b < I.nV
        · have CB := Hid.mk (HO.out b nb0 hvb)
          clear HO RQ na1 nb1
          go_region_held3 (fun w' => w'.cell? ⟨w.heap.size, 0, none⟩ = some (.slice a1 I.nV c1) ∧ w'.cell? ⟨w.heap.size, 1, none⟩ = some (.slice a2 I.nQ c2) ∧ w'.cell? ⟨w.heap.size, 2, none⟩ = some (.slice a3 I.nR c3))
            ((refine ⟨?_, ?_, ?_⟩ <;> (refine (blk_cell (cs := #[.slice a1 I.nV c1, .slice a2 I.nQ c2, .slice a3 I.nR c3]) (t := 44) (fr := (0, 0)) ?_ _).trans rfl; repeat' (first | exact A1.out | refine blk_alloc ?_ _ | refine blk_set_other ?_ (by simp; omega) _))))
            ((first | (go_at_call_of 180 (Value.int .i64 a); refine (CA.out _ ?hB).mono ?_; (case hB => repeat' (first | exact hB1 | refine Below.drew ?_ | refine below_alloc' ?_ _)); rintro e w2 ⟨rfl, rfl⟩) | (go_at_call_of 180 (Value.int .i64 b); refine (CB.out _ ?hB).mono ?_; (case hB => repeat' (first | exact hB1 | refine Below.drew ?_ | refine below_alloc' ?_ _)); rintro e w2 ⟨rfl, rfl⟩)))
          all_goals (go_wp2_with fail; go_meet)
          all_goals (refine ⟨_, _, rfl, rfl, ?_, ?_, ?_, ?_, ?_⟩)
          all_goals first | (go_simp; done) | (unfold Hid; go_grown; done)
        · have CB := Hid.mk (RQ.out b (by omega) nb1)
          clear HO RQ na1 nb1
          go_region_held3 (fun w' => w'.cell? ⟨w.heap.size, 0, none⟩ = some (.slice a1 I.nV c1) ∧ w'.cell? ⟨w.heap.size, 1, none⟩ = some (.slice a2 I.nQ c2) ∧ w'.cell? ⟨w.heap.size, 2, none⟩ = some (.slice a3 I.nR c3))
            ((refine ⟨?_, ?_, ?_⟩ <;> (refine (blk_cell (cs := #[.slice a1 I.nV c1, .slice a2 I.nQ c2, .slice a3 I.nR c3]) (t := 44) (fr := (0, 0)) ?_ _).trans rfl; repeat' (first | exact A1.out | refine blk_alloc ?_ _ | refine blk_set_other ?_ (by simp; omega) _))))
            ((first | (go_at_call_of 180 (Value.int .i64 a); refine (CA.out _ ?hB).mono ?_; (case hB => repeat' (first | exact hB1 | refine Below.drew ?_ | refine below_alloc' ?_ _)); rintro e w2 ⟨rfl, rfl⟩) | (go_at_call_of 180 (Value.int .i64 b); refine (CB.out _ ?hB).mono ?_; (case hB => repeat' (first | exact hB1 | refine Below.drew ?_ | refine below_alloc' ?_ _)); rintro e w2 ⟨rfl, rfl⟩)))
          all_goals (go_wp2_with fail; go_meet)
          all_goals (refine ⟨_, _, rfl, rfl, ?_, ?_, ?_, ?_, ?_⟩)
          all_goals first | (go_simp; done) | (unfold Hid; go_grown; done)
    case rest =>
      obtain ⟨g, k, rfl, rfl, k0, k1, k2, k3, hbw⟩ := hcut
      have cx : ∀ W : World, Calls Tryz.prog 186 #[.int .i64 (plOf I a).x, .int .i64 (plOf I b).x] W fun e w' => e = .returned (.int .i64 (ab ((plOf I a).x - (plOf I b).x))) ∧ w' = W := fun W => dist _ _ W (by omega) (by omega) (by omega) (by omega)
      have cy : ∀ W : World, Calls Tryz.prog 186 #[.int .i64 (plOf I a).y, .int .i64 (plOf I b).y] W fun e w' => e = .returned (.int .i64 (ab ((plOf I a).y - (plOf I b).y))) ∧ w' = W := fun W => dist _ _ W (by omega) (by omega) (by omega) (by omega)
      have ax := ab_bd ((plOf I a).x - (plOf I b).x) (by omega) (by omega)
      have ay := ab_bd ((plOf I a).y - (plOf I b).y) (by omega) (by omega)
      go_wp2_with fail
      go_quiet ((first | (go_at_call_of 186 (Value.int IntKind.i64 (plOf I a).x); exact Calls.quiet_of_same (cx _)) | (go_at_call_of 186 (Value.int IntKind.i64 (plOf I a).y); exact Calls.quiet_of_same (cy _))))
      go_wp2
      go_ret
      exact ⟨congrArg (fun z => Ending.returned (.int .i64 z)) hl.out.symm, below_drewN' hbw.out nq⟩
end Go.Proofs.YtgooegcmgejfpaaGreatDoor.Travel
