import Derived.Test.YthobdaeglhdhnaaGreatDoorPp21
import Derived.Test.YthobdaeglhdhnaaGreatDoorPp08
import Derived.Deep.DrawnRows
import Derived.Deep.CutRange
import Derived.Deep.Cut
import Derived.Deep.DeepCutAuto
namespace Go.Proofs.YthobdaeglhdhnaaGreatDoor.Syn
open Go Go.RowKit Go.Proofs.YthobdaeglhdhnaaGreatDoor.Mem
open Go.Proofs.YthobdaeglhdhnaaGreatDoor.Print (Own infoB byteCells_one)
set_option linter.unusedVariables false
set_option linter.unusedSimpArgs false
attribute [local go_sem ↓] Go.wp_at_zero Go.wp_at_succ

/-- The expression is printed behind what the buffer holds. -/
def AppOk (t : Tr) : Prop := ∀ (B : Nat) (w : World) (bs : List UInt8) (x nv : Value), Own B w x bs → B ≤ w.heap.size → Ps B w → Nd w none nv t → bs.length + t.txt.length ≤ 500000000 → Calls Tryz.prog 50 #[x, nv] w (App B x w (bs ++ t.txt))
set_option maxHeartbeats 3200000 in
set_option maxRecDepth 100000 in
theorem appendOperandI (t : Tr) (hA : AppOk t) (hw : t.wf) (least : Int) (B : Nat) (w : World) (bs : List UInt8) (x nv : Value) (hown : Own B w x bs) (hB : B ≤ w.heap.size) (hP : Ps B w) (h : Nd w none nv t) (hl : bs.length + (par (decide (t.str < least)) t.txt).length ≤ 500000000) :
    Calls Tryz.prog 66 #[x, nv, .int .i64 least] w (App B x w (bs ++ par (decide (t.str < least)) t.txt)) := by
  have HA := Hid.mk hA
  have HW := Hid.mk hw
  have HO := Hid.mk hown
  have HP := Hid.mk hP
  have HD := Hid.mk h
  obtain ⟨S, hS'⟩ : ∃ S, S = t.str := ⟨_, rfl⟩
  have HSe := Hid.mk hS'
  rw [← hS'] at hl ⊢
  obtain ⟨T, hT⟩ : ∃ T, T = t.txt := ⟨_, rfl⟩
  have HTe := Hid.mk hT
  rw [← hT] at hl ⊢
  clear hA hw hown hP hS' hT
  cases h
  all_goals
    by_cases hs : S < least
    · have hd : decide (least ≤ S) = false := by simp; omega
      have hv : Hid (par (decide (S < least)) T = [40] ++ T ++ [41]) := by unfold Hid par; rw [if_pos (by simpa using hs)]
      rw [hv.out] at hl ⊢
      simp only [List.length_append, List.length_cons, List.length_nil] at hl
      clear hv hs
      go_enter Tryz.func66, Tryz.ntmps66
      go_wp2_with fail
      refine (strI _ _ _ _ HD.out HW.out HP.out.t.now.b).mono ?_
      rintro e w1 ⟨rfl, hb1⟩
      rw [← HSe.out]
      have HK1 := Hid.mk (Kb.of (x := x) hb1 hB)
      have hB1 := Nat.le_trans hB HK1.out.1.size
      have HO1 := Hid.mk (own_bel' HO.out hb1)
      clear hb1
      go_wp2_with (at_builtin; refine wpList_byte rfl _ _ rfl B _ bs rfl (own_bel' HO1.out (below_alloc' (Below.refl _ _) _)) _ _ rfl 40 (blk_cell (blk_new _ _) 0) (by simp; omega) (by omega) ?_)
      intro v2 w2 ho2 hk2
      have HO2 := Hid.mk ho2
      have HK2 := Hid.mk ((HK1.out.alloc hB1 _).trans hk2)
      have hB2 := Nat.le_trans hB HK2.out.1.size
      clear ho2 hk2
      refine Hid.out ?_
      refine Lib.hid ?_
      go_wp2_with fail
      refine (HA.out B _ (bs ++ [40]) _ _ HO2.out hB2 (HP.out.on HK2.out.1) (HD.out.oth HK2.out) (by rw [← HTe.out]; simp; omega)).mono ?_
      rintro e w3 ⟨v3, rfl, ho3, hk3⟩
      rw [← HTe.out] at ho3
      have HO3 := Hid.mk ho3
      have HK3 := Hid.mk (HK2.out.trans hk3)
      have hB3 := Nat.le_trans hB HK3.out.1.size
      clear ho3 hk3
      go_wp2_with (at_builtin; refine wpList_byte rfl _ _ rfl B _ (bs ++ [40] ++ T) rfl (own_bel' HO3.out (below_alloc' (Below.refl _ _) _)) _ _ rfl 41 (blk_cell (blk_new _ _) 0) (by simp; omega) (by simp; omega) ?_)
      intro v4 w4 ho4 hk4
      have HO4 := Hid.mk ho4
      have HK4 := Hid.mk ((HK3.out.alloc hB3 _).trans hk4)
      clear ho4 hk4
      refine Hid.out ?_
      refine Lib.hid ?_
      go_wp2
      go_ret
      exact ⟨v4, rfl, by have z := HO4.out; simpa [List.append_assoc] using z, HK4.out⟩
    · have hd : decide (least ≤ S) = true := by simp; omega
      have hv : Hid (par (decide (S < least)) T = T) := by unfold Hid par; rw [if_neg (by simpa using hs)]
      rw [hv.out] at hl ⊢
      clear hv hs
      go_enter Tryz.func66, Tryz.ntmps66
      go_wp2_with fail
      refine (strI _ _ _ _ HD.out HW.out HP.out.t.now.b).mono ?_
      rintro e w1 ⟨rfl, hb1⟩
      rw [← HSe.out]
      have HK1 := Hid.mk (Kb.of (x := x) hb1 hB)
      have hB1 := Nat.le_trans hB HK1.out.1.size
      have HO1 := Hid.mk (own_bel' HO.out hb1)
      clear hb1
      go_wp2_with fail
      refine (HA.out B _ bs _ _ HO1.out hB1 (HP.out.on HK1.out.1) (HD.out.oth HK1.out) (by rw [← HTe.out]; omega)).mono ?_
      rintro e w3 ⟨v3, rfl, ho3, hk3⟩
      rw [← HTe.out] at ho3
      have HO3 := Hid.mk ho3
      have HK3 := Hid.mk (HK1.out.trans hk3)
      clear ho3 hk3
      go_wp2
      go_ret
      exact ⟨v3, rfl, HO3.out, HK3.out⟩
/-- The operands of a call, in their order. -/
def jn (ts : Nat → Tr) : Nat → List UInt8
  | 0 => []
  | j + 1 => jn ts j ++ (if j = 0 then [] else [44, 32]) ++ (ts j).txt
theorem jn_len (ts : Nat → Tr) {j N : Nat} (h : j ≤ N) : (jn ts j).length ≤ (jn ts N).length := by
  induction N with
  | zero => obtain rfl : j = 0 := by omega
            exact Nat.le_refl _
  | succ N ih =>
    by_cases e : j = N + 1
    · rw [e]; exact Nat.le_refl _
    · have := ih (by omega)
      simp only [jn, List.length_append]
      omega
set_option maxHeartbeats 3200000 in
set_option maxRecDepth 100000 in
theorem appendCallI (N : Nat) (ts : Nat → Tr) (vs : Nat → Value) (k : Int) (v : Nat) (n : ByteArray) (g off c : Nat) (B : Nat) (w : World) (bs : List UInt8) (x : Value) (hA : ∀ i, i < N → AppOk (ts i)) (hD : ∀ i, i < N → Nd w none (vs i) (ts i)) (hk : Nk w g) (hc : ∀ i, i < N → w.cell? ⟨g, off + i, none⟩ = some (vs i)) (hn : N ≤ 3) (hv : v ≤ 2)
    (hown : Own B w x bs) (hB : B ≤ w.heap.size) (hP : Ps B w) (hl : bs.length + (twAt (25 + v)).length + 2 + (jn ts N).length ≤ 500000000) :
    Calls Tryz.prog 70 #[x, .agg #[.int .i64 k, .int .i64 (v : Int), .string n, .slice (some ⟨g, off, none⟩) N c]] w (App B x w (bs ++ twAt (25 + v) ++ [40] ++ jn ts N ++ [41])) := by
  have HA := Hid.mk hA
  have HD := Hid.mk hD
  have HC := Hid.mk hc
  have HNK := Hid.mk hk
  have HO := Hid.mk (own_bel' hown (below_alloc' (Below.refl _ _) (.cells #[.int .i64 k, .int .i64 (v : Int), .string n, .slice (some ⟨g, off, none⟩) N c] 113)))
  have HK := Hid.mk ((Kb.refl B x w).alloc hB (.cells #[.int .i64 k, .int .i64 (v : Int), .string n, .slice (some ⟨g, off, none⟩) N c] 113))
  have HP := Hid.mk hP
  have hw : IntKind.i64.wrap (25 + (v : Int)) = ((25 + v : Nat) : Int) := by rw [IntKind.wrap_i64]; omega
  have htl := tw_len (25 + v)
  have ht := (hP.on HK.out.1).t.now.t (25 + v) (by omega)
  clear hA hD hc hk hown hP
  go_enter Tryz.func70, Tryz.ntmps70
  go_wp2_with (at_builtin; first | refine wpList_str rfl _ _ rfl B _ bs rfl HO.out (twAt (25 + v)) rfl (by simp; omega) (by omega) ?_)
  intro v2 w2 ho2 hk2
  have HO2 := Hid.mk ho2
  have HK2 := Hid.mk (HK.out.trans hk2)
  have hB2 := Nat.le_trans hB HK2.out.1.size
  have hbx := Hid.mk (hk2.blk (blk_new w _) (by decide))
  clear ho2 hk2 ht hw
  refine Hid.out ?_
  refine Lib.hid ?_
  go_wp2_with (at_builtin; refine wpList_byte rfl _ _ rfl B _ _ rfl (own_bel' HO2.out (below_alloc' (Below.refl _ _) _)) _ _ rfl 40 (blk_cell (blk_new _ _) 0) (by simp; omega) (by simp; omega) ?_)
  intro v3 w3 ho3 hk3
  have HO3 := Hid.mk ho3
  have HK3 := Hid.mk ((HK2.out.alloc hB2 _).trans hk3)
  have hB3 := Nat.le_trans hB HK3.out.1.size
  have hcx := blk_cell (hk3.blk (blk_alloc hbx.out _) (by decide)) 3
  simp only [List.getElem?_toArray, List.getElem?_cons_zero, List.getElem?_cons_succ] at hcx
  clear ho3 hk3 hbx HO2 HO
  obtain ⟨pre, hpre⟩ : ∃ pre, pre = bs ++ twAt (25 + v) ++ [40] := ⟨_, rfl⟩
  have hpl : pre.length + (jn ts N).length + 1 ≤ 500000000 := by rw [hpre]; simp; omega
  have HO3' : Hid (Own B w3 v3 pre) := by unfold Hid; rw [hpre]; simpa [List.append_assoc] using HO3.out
  have HPRE := Hid.mk hpre
  clear hpre htl hl HO3
  refine Hid.out ?_
  refine Lib.hid ?_
  go_wp2
  go_loopw [0, 20] (fun b i wr => ∃ j : Nat, j ≤ N ∧ i = .int .i64 (j : Int) ∧ Hid (Own B wr b (pre ++ jn ts j)) ∧ Hid (Kb B x b w wr)) (fun _ i _ => N - (intOf i).toNat)
  case atStart => exact ⟨0, Nat.zero_le _, rfl, by simpa [jn] using HO3', HK3⟩
  case round =>
    obtain ⟨j, hj, rfl, ho, hkr⟩ := hrel
    clear hcx
    have hBr := Nat.le_trans hB hkr.out.1.size
    have hjl := jn_len ts hj
    by_cases hlt : j < N
    · have hj2 := jn_len ts (show j + 1 ≤ N from hlt)
      have e0 : wr.cell? ⟨g, off + j, none⟩ = some (vs j) := by
        obtain ⟨C, fr, hb⟩ := HNK.out
        rw [World.cell?_of_block (a := ⟨_, _, none⟩) ((hkr.out.blk hb (by decide)).trans hb.symm)]; exact HC.out j hlt
      have k0 : (0 : Int) ≤ (j : Int) := by omega
      have k1 : (j : Int) < (N : Int) := by omega
      obtain ⟨T, u, hu⟩ := (HD.out j hlt).form
      have HDj := Hid.mk (HD.out j hlt)
      rw [hu] at HDj e0
      clear hu
      by_cases hz : j = 0
      · have hd : decide ((0 : Int) < (j : Int)) = false := by simp; omega
        have hd2 : decide (0 < j) = false := by simp; omega
        have hd3 : ¬ 0 < j := by omega
        have hjn : Hid (jn ts (j + 1) = jn ts j ++ (ts j).txt) := by unfold Hid; rw [jn, if_pos hz, List.append_nil]
        rw [hjn.out] at hj2
        clear hz
        go_wp2_with fail
        refine (HA.out j hlt B _ (pre ++ jn ts j) _ _ ho.out hBr (HP.out.on hkr.out.1) (HDj.out.oth hkr.out) (by simp only [List.length_append] at hj2 ⊢; omega)).mono ?_
        rintro e w5 ⟨v5, rfl, ho5, hk5⟩
        have HO5 : Hid (Own B w5 v5 (pre ++ jn ts (j + 1))) := by unfold Hid; rw [hjn.out, ← List.append_assoc]; exact ho5
        have HK5 := Hid.mk (hkr.out.trans hk5)
        clear ho5 hk5 e0
        go_wp2
        exact ⟨⟨j + 1, by omega, by go_num, HO5, HK5⟩, by simp [intOf]; omega⟩
      · have hd : decide ((0 : Int) < (j : Int)) = true := by simp; omega
        have hd2 : 0 < j := by omega
        have hjn : Hid (jn ts (j + 1) = jn ts j ++ [44, 32] ++ (ts j).txt) := by unfold Hid; rw [jn, if_neg hz]
        rw [hjn.out] at hj2
        go_wp2_with (at_builtin; refine wpList_str rfl _ _ rfl B _ (pre ++ jn ts j) rfl ho.out [44, 32] rfl hBr (by simp only [List.length_append, List.length_cons, List.length_nil] at hj2 ⊢; omega) ?_)
        intro v4 w4 ho4 hk4
        have HO4 := Hid.mk ho4
        have HK4 := Hid.mk (hkr.out.trans hk4)
        have hB4 := Nat.le_trans hB HK4.out.1.size
        clear ho4 hk4 e0
        refine Hid.out ?_
        refine Lib.hid ?_
        go_wp2_with fail
        refine (HA.out j hlt B _ _ _ _ HO4.out hB4 (HP.out.on HK4.out.1) (HDj.out.oth HK4.out) (by simp only [List.length_append, List.length_cons, List.length_nil] at hj2 ⊢; omega)).mono ?_
        rintro e w5 ⟨v5, rfl, ho5, hk5⟩
        have HO5 : Hid (Own B w5 v5 (pre ++ jn ts (j + 1))) := by unfold Hid; rw [hjn.out]; simp only [List.append_assoc] at ho5 ⊢; exact ho5
        have HK5 := Hid.mk (HK4.out.trans hk5)
        clear ho5 hk5
        go_wp2
        exact ⟨⟨j + 1, by omega, by go_num, HO5, HK5⟩, by simp [intOf]; omega⟩
    · obtain rfl : j = N := by omega
      have k1 : decide ((j : Int) < (j : Int)) = false := by simp
      go_wp2_with (at_builtin; refine wpList_byte rfl _ _ rfl B _ (pre ++ jn ts j) rfl (own_bel' ho.out (below_alloc' (Below.refl _ _) _)) _ _ rfl 41 (blk_cell (blk_new _ _) 0) (by simp; omega) (by simp only [List.length_append]; omega) ?_)
      intro v6 w6 ho6 hk6
      have HO6 := Hid.mk ho6
      have HK6 := Hid.mk ((hkr.out.alloc hBr _).trans hk6)
      clear ho6 hk6
      refine Hid.out ?_
      refine Lib.hid ?_
      go_wp2
      go_ret
      exact ⟨v6, rfl, by have z := HO6.out; rw [HPRE.out] at z; simpa [List.append_assoc] using z, HK6.out⟩
end Go.Proofs.YthobdaeglhdhnaaGreatDoor.Syn
