import Derived.Test.YtgooegcmgejfpaaGreatDoorGr01
import Derived.Test.YtgooegcmgejfpaaGreatDoorGr03
namespace Go.Proofs.YtgooegcmgejfpaaGreatDoor.Copy
open Go Go.RowKit Go.Proofs.YtgooegcmgejfpaaGreatDoor.Mem
set_option linter.unusedVariables false

theorem infoVeh : (Tryz.prog.info? 81).map (fun i => (i.zero, i.size, i.bytes)) = some (some (.agg #[.int .i64 0, .int .i64 0, .int .i64 0, .int .i64 0, .int .i64 0, .int .i64 0, .int .i64 0]), 7, 56) := by kernel_rfl

set_option maxHeartbeats 800000 in
set_option maxRecDepth 100000 in
theorem toVehicleS (a : Option Addr) (n cap : Nat) (V : Nat → Veh) (w : World) (hs : SliceAt w a n 7 (fun i => (V i).cells)) (hn : n ≤ 1048576) :
    Calls Tryz.prog 45 #[.slice a n cap] w fun e w' => e = .returned (.slice (some ⟨w.heap.size, 0, none⟩) n n) ∧ Below w.heap.size w w' ∧ w'.there w.heap.size 0 (n * 7) ∧ (∀ i, i < n → w'.rangeAt w.heap.size (0 + i * 7) (V i).cells) ∧ w.heap.size < w'.heap.size := by
  have hmk := run_make_n (P := Tryz.prog) 40 81 _ 7 56 Tryz.underlying40 infoVeh n hn (by omega)
  go_enter Tryz.func45, Tryz.ntmps45
  go_wp2
  clear hmk
  go_loopw [4] (fun i wr => ∃ k : Nat, k ≤ n ∧ i = .int .i64 k ∧ Hid (Below w.heap.size w wr) ∧ Hid (wr.there w.heap.size 0 (n * 7)) ∧ Hid (∀ i, i < k → wr.rangeAt w.heap.size (0 + i * 7) (V i).cells) ∧ Hid (w.heap.size < wr.heap.size)) (fun i _ => n - (intOf i).toNat)
  case atStart => exact ⟨0, Nat.zero_le _, rfl, (Below.refl _ _).alloc (Nat.le_refl _) _, there_make _ _ _ _, fun i hi => absurd hi (Nat.not_lt_zero _), by simp [Hid]⟩
  case round =>
    obtain ⟨k, hk, rfl, hb, ht, hf, hsz⟩ := hrel
    by_cases hlt : k < n
    · rcases hs with hs | ⟨b, off, rfl, hs⟩
      · omega
      obtain ⟨c0, c1, c2, c3, c4, c5, c6⟩ := Veh.at (rangeAt_below (hs k hlt) hb.out)
      clear hs
      go_wp2_with fail
      refine (Leaf.toVehicle _ _ _ _ _ _ _ _).mono ?_
      rintro e w1 ⟨rfl, hb1⟩
      clear c0 c1 c2 c3 c4 c5 c6
      have hlt0 : w.heap.size < wr.heap.size := hsz.out
      have hsz1 : Hid (w.heap.size < w1.heap.size) := Nat.lt_of_lt_of_le hsz.out hb1.size
      have ht1 : Hid (w1.there w.heap.size 0 (n * 7)) := there_below ht.out hlt0 hb1
      have hf1 : Hid (∀ i, i < k → w1.rangeAt w.heap.size (0 + i * 7) (V i).cells) := fun i hi => rangeAt_below (hf.out i hi) hb1
      have hb2 : Hid (Below w.heap.size w w1) := hb.out.trans (hb1.mono (by omega))
      obtain ⟨v0, v1, v2, v3, v4, v5, v6, d0, d1, d2, d3, d4, d5, d6, f0, f1, f2, f3, f4, f5, f6⟩ := there7 (there_part (o' := k * 7) (n' := 7) ht1.out (by omega) (by omega))
      clear hb1 hlt0 ht hf hb hsz
      go_wp2
      refine ⟨⟨k + 1, by omega, by go_num, ?_, ?_, ?_, ?_⟩, by simp [intOf]; omega⟩
      · exact Below.setCells' w.heap.size (Nat.le_refl _) (V k).cells (k * 7) w1 hb2.out
      · exact World.there_setCells (w := w1) ht1.out w.heap.size (k * 7) (V k).cells
      · exact fill_step (w := w1) (C := fun i => (V i).cells) (k := 7) (fun i _ => Veh.len _) (there_part ht1.out (by omega) (by omega)) hf1.out
      · show w.heap.size < (w1.setCells w.heap.size (k * 7) (V k).cells).heap.size
        rw [size_setCells]; exact hsz1.out
    · go_wp2
      go_ret
      have hkn : k = n := by omega
      subst hkn
      exact ⟨rfl, hb.out, ht.out, hf.out, hsz.out⟩

theorem infoReq : (Tryz.prog.info? 110).map (fun i => (i.zero, i.size, i.bytes)) = some (some (.agg #[.int .i64 0, .int .i64 0, .int .i64 0, .int .i64 0, .int .i64 0, .int .i64 0, .int .i64 0, .int .i64 0, .int .i64 0, .int .i64 0, .int .i64 0, .int .i64 0]), 12, 96) := by kernel_rfl

set_option maxHeartbeats 800000 in
set_option maxRecDepth 100000 in
theorem toRequestS (a : Option Addr) (n cap : Nat) (V : Nat → Req) (w : World) (hs : SliceAt w a n 12 (fun i => (V i).cells)) (hn : n ≤ 1048576) :
    Calls Tryz.prog 46 #[.slice a n cap] w fun e w' => e = .returned (.slice (some ⟨w.heap.size, 0, none⟩) n n) ∧ Below w.heap.size w w' ∧ w'.there w.heap.size 0 (n * 12) ∧ (∀ i, i < n → w'.rangeAt w.heap.size (0 + i * 12) (V i).cells) ∧ w.heap.size < w'.heap.size := by
  have hmk := run_make_n (P := Tryz.prog) 41 110 _ 12 96 Tryz.underlying41 infoReq n hn (by omega)
  go_enter Tryz.func46, Tryz.ntmps46
  go_wp2
  clear hmk
  go_loopw [4] (fun i wr => ∃ k : Nat, k ≤ n ∧ i = .int .i64 k ∧ Hid (Below w.heap.size w wr) ∧ Hid (wr.there w.heap.size 0 (n * 12)) ∧ Hid (∀ i, i < k → wr.rangeAt w.heap.size (0 + i * 12) (V i).cells) ∧ Hid (w.heap.size < wr.heap.size)) (fun i _ => n - (intOf i).toNat)
  case atStart => exact ⟨0, Nat.zero_le _, rfl, (Below.refl _ _).alloc (Nat.le_refl _) _, there_make _ _ _ _, fun i hi => absurd hi (Nat.not_lt_zero _), by simp [Hid]⟩
  case round =>
    obtain ⟨k, hk, rfl, hb, ht, hf, hsz⟩ := hrel
    by_cases hlt : k < n
    · rcases hs with hs | ⟨b, off, rfl, hs⟩
      · omega
      obtain ⟨c0, c1, c2, c3, c4, c5, c6, c7, c8, c9, c10, c11⟩ := Req.at (rangeAt_below (hs k hlt) hb.out)
      clear hs
      go_wp2_with fail
      refine (Leaf.toRequest _ _ _ _ _ _ _ _ _ _ _ _ _).mono ?_
      rintro e w1 ⟨rfl, hb1⟩
      clear c0 c1 c2 c3 c4 c5 c6 c7 c8 c9 c10 c11
      have hlt0 : w.heap.size < wr.heap.size := hsz.out
      have hsz1 : Hid (w.heap.size < w1.heap.size) := Nat.lt_of_lt_of_le hsz.out hb1.size
      have ht1 : Hid (w1.there w.heap.size 0 (n * 12)) := there_below ht.out hlt0 hb1
      have hf1 : Hid (∀ i, i < k → w1.rangeAt w.heap.size (0 + i * 12) (V i).cells) := fun i hi => rangeAt_below (hf.out i hi) hb1
      have hb2 : Hid (Below w.heap.size w w1) := hb.out.trans (hb1.mono (by omega))
      obtain ⟨v0, v1, v2, v3, v4, v5, v6, v7, v8, v9, v10, v11, d0, d1, d2, d3, d4, d5, d6, d7, d8, d9, d10, d11, f0, f1, f2, f3, f4, f5, f6, f7, f8, f9, f10, f11⟩ := there12 (there_part (o' := k * 12) (n' := 12) ht1.out (by omega) (by omega))
      clear hb1 hlt0 ht hf hb hsz
      go_wp2
      refine ⟨⟨k + 1, by omega, by go_num, ?_, ?_, ?_, ?_⟩, by simp [intOf]; omega⟩
      · exact Below.setCells' w.heap.size (Nat.le_refl _) (V k).cells (k * 12) w1 hb2.out
      · exact World.there_setCells (w := w1) ht1.out w.heap.size (k * 12) (V k).cells
      · exact fill_step (w := w1) (C := fun i => (V i).cells) (k := 12) (fun i _ => Req.len _) (there_part ht1.out (by omega) (by omega)) hf1.out
      · show w.heap.size < (w1.setCells w.heap.size (k * 12) (V k).cells).heap.size
        rw [size_setCells]; exact hsz1.out
    · go_wp2
      go_ret
      have hkn : k = n := by omega
      subst hkn
      exact ⟨rfl, hb.out, ht.out, hf.out, hsz.out⟩

theorem infoRd : (Tryz.prog.info? 124).map (fun i => (i.zero, i.size, i.bytes)) = some (some (.agg #[.int .i64 0, .int .i64 0, .int .i64 0]), 3, 24) := by kernel_rfl

set_option maxHeartbeats 800000 in
set_option maxRecDepth 100000 in
theorem toRoadS (a : Option Addr) (n cap : Nat) (V : Nat → Rd) (w : World) (hs : SliceAt w a n 3 (fun i => (V i).cells)) (hn : n ≤ 1048576) :
    Calls Tryz.prog 47 #[.slice a n cap] w fun e w' => e = .returned (.slice (some ⟨w.heap.size, 0, none⟩) n n) ∧ Below w.heap.size w w' ∧ w'.there w.heap.size 0 (n * 3) ∧ (∀ i, i < n → w'.rangeAt w.heap.size (0 + i * 3) (V i).cells) ∧ w.heap.size < w'.heap.size := by
  have hmk := run_make_n (P := Tryz.prog) 42 124 _ 3 24 Tryz.underlying42 infoRd n hn (by omega)
  go_enter Tryz.func47, Tryz.ntmps47
  go_wp2
  clear hmk
  go_loopw [4] (fun i wr => ∃ k : Nat, k ≤ n ∧ i = .int .i64 k ∧ Hid (Below w.heap.size w wr) ∧ Hid (wr.there w.heap.size 0 (n * 3)) ∧ Hid (∀ i, i < k → wr.rangeAt w.heap.size (0 + i * 3) (V i).cells) ∧ Hid (w.heap.size < wr.heap.size)) (fun i _ => n - (intOf i).toNat)
  case atStart => exact ⟨0, Nat.zero_le _, rfl, (Below.refl _ _).alloc (Nat.le_refl _) _, there_make _ _ _ _, fun i hi => absurd hi (Nat.not_lt_zero _), by simp [Hid]⟩
  case round =>
    obtain ⟨k, hk, rfl, hb, ht, hf, hsz⟩ := hrel
    by_cases hlt : k < n
    · rcases hs with hs | ⟨b, off, rfl, hs⟩
      · omega
      obtain ⟨c0, c1, c2⟩ := Rd.at (rangeAt_below (hs k hlt) hb.out)
      clear hs
      go_wp2_with fail
      refine (Leaf.toRoad _ _ _ _).mono ?_
      rintro e w1 ⟨rfl, hb1⟩
      clear c0 c1 c2
      have hlt0 : w.heap.size < wr.heap.size := hsz.out
      have hsz1 : Hid (w.heap.size < w1.heap.size) := Nat.lt_of_lt_of_le hsz.out hb1.size
      have ht1 : Hid (w1.there w.heap.size 0 (n * 3)) := there_below ht.out hlt0 hb1
      have hf1 : Hid (∀ i, i < k → w1.rangeAt w.heap.size (0 + i * 3) (V i).cells) := fun i hi => rangeAt_below (hf.out i hi) hb1
      have hb2 : Hid (Below w.heap.size w w1) := hb.out.trans (hb1.mono (by omega))
      obtain ⟨v0, v1, v2, d0, d1, d2, f0, f1, f2⟩ := there3 (there_part (o' := k * 3) (n' := 3) ht1.out (by omega) (by omega))
      clear hb1 hlt0 ht hf hb hsz
      go_wp2
      refine ⟨⟨k + 1, by omega, by go_num, ?_, ?_, ?_, ?_⟩, by simp [intOf]; omega⟩
      · exact Below.setCells' w.heap.size (Nat.le_refl _) (V k).cells (k * 3) w1 hb2.out
      · exact World.there_setCells (w := w1) ht1.out w.heap.size (k * 3) (V k).cells
      · exact fill_step (w := w1) (C := fun i => (V i).cells) (k := 3) (fun i _ => Rd.len _) (there_part ht1.out (by omega) (by omega)) hf1.out
      · show w.heap.size < (w1.setCells w.heap.size (k * 3) (V k).cells).heap.size
        rw [size_setCells]; exact hsz1.out
    · go_wp2
      go_ret
      have hkn : k = n := by omega
      subst hkn
      exact ⟨rfl, hb.out, ht.out, hf.out, hsz.out⟩

set_option maxHeartbeats 1600000 in
theorem toInst (a1 a2 a3 : Option Addr) (c1 c2 c3 : Nat) (I : In) (w : World) (h : InAt w a1 a2 a3 I) (h1 : I.nV ≤ 1048576) (h2 : I.nQ ≤ 1048576) (h3 : I.nR ≤ 1048576) :
    Calls Tryz.prog 11 #[.agg #[.slice a1 I.nV c1, .slice a2 I.nQ c2, .slice a3 I.nR c3]] w fun e w' => ∃ b1 b2 b3, e = .returned (.agg #[.slice (some ⟨b1, 0, none⟩) I.nV I.nV, .slice (some ⟨b2, 0, none⟩) I.nQ I.nQ, .slice (some ⟨b3, 0, none⟩) I.nR I.nR]) ∧ Below w.heap.size w w' ∧ InAt w' (some ⟨b1, 0, none⟩) (some ⟨b2, 0, none⟩) (some ⟨b3, 0, none⟩) I ∧
      w.heap.size ≤ b1 ∧ b1 < b2 ∧ b2 < b3 ∧ b3 < w'.heap.size ∧ w'.there b1 0 (I.nV * 7) ∧ w'.there b2 0 (I.nQ * 12) ∧ w'.there b3 0 (I.nR * 3) := by
  have H : Hid (InAt w a1 a2 a3 I) := h
  clear h
  go_enter Tryz.func11, Tryz.ntmps11
  go_wp2_with fail
  refine (toVehicleS a1 I.nV c1 I.V _ (H.out.v.below (by go_grown)) h1).mono ?_
  rintro e w1 ⟨rfl, hb1, ht1, hf1, hn1⟩
  have HB1 : Hid (Below w.heap.size w w1) := below_then (by go_grown) hb1
  have A0 := Hid.mk (blk_below (blk_alloc (blk_alloc (blk_new w _) _) _) hb1)
  have A1 := Hid.mk (blk_below (blk_alloc (blk_new1 w _ _) _) hb1)
  have A2 := Hid.mk (blk_below (blk_new2 w _ _ _) hb1)
  simp only [World.size_alloc] at ht1 hf1 hn1
  have HT1 := Hid.mk ht1
  have HF1 := Hid.mk hf1
  clear hb1 ht1 hf1
  have k1 := blk_cell A0.out 1
  have k2 := blk_cell A2.out 0
  have k3 := blk_unfrozen A2.out 0
  simp only [List.getElem?_toArray, List.getElem?_cons_zero, List.getElem?_cons_succ] at k1 k2
  go_wp2_with fail
  clear k1 k2 k3
  have HB1' := below_set HB1.out ⟨w.heap.size + 1 + 1, 0, none⟩ (by show w.heap.size ≤ w.heap.size + 1 + 1; omega) (Value.slice (some ⟨w.heap.size + 1 + 1 + 1, 0, none⟩) I.nV I.nV)
  refine (toRequestS a2 I.nQ c2 I.Q _ (H.out.q.below HB1') h2).mono ?_
  rintro e w2 ⟨rfl, hb2, ht2, hf2, hn2⟩
  have HB2 : Hid (Below w.heap.size w w2) := below_then HB1' hb2
  have HT12 := Hid.mk (there_below (there_set HT1.out ⟨w.heap.size + 1 + 1, 0, none⟩ (by simp) _) (by rw [size_set]; exact hn1) hb2)
  have HF12 := Hid.mk (fun i hi => rangeAt_below (rangeAt_set_other (HF1.out i hi) (p := ⟨w.heap.size + 1 + 1, 0, none⟩) (by simp) _) hb2)
  have B0 := Hid.mk (blk_below (blk_set_other A0.out (p := ⟨w.heap.size + 1 + 1, 0, none⟩) (by simp; omega) _) hb2)
  have B1 := Hid.mk (blk_below (blk_set_other A1.out (p := ⟨w.heap.size + 1 + 1, 0, none⟩) (by simp) _) hb2)
  have B2 := Hid.mk (blk_below (blk_set A2.out 0 _) hb2)
  simp only [size_set] at ht2 hf2 hn2
  have HT2 := Hid.mk ht2
  have HF2 := Hid.mk hf2
  clear hb2 ht2 hf2 HB1' HT1 HF1 HB1 A0 A1 A2
  rw [size_set]
  have k1 := blk_cell B0.out 2
  have k2 := blk_cell B2.out 1
  have k3 := blk_unfrozen B2.out 1
  simp only [List.getElem?_toArray, List.getElem?_cons_zero, List.getElem?_cons_succ, List.setIfInBounds_toArray, List.set_cons_zero] at k1 k2
  go_wp2_with fail
  clear k1 k2 k3
  have HB2' := below_set HB2.out ⟨w.heap.size + 1 + 1, 1, none⟩ (by show w.heap.size ≤ w.heap.size + 1 + 1; omega) (Value.slice (some ⟨w1.heap.size, 0, none⟩) I.nQ I.nQ)
  refine (toRoadS a3 I.nR c3 I.R _ (H.out.r.below HB2') h3).mono ?_
  rintro e w3 ⟨rfl, hb3, ht3, hf3, hn3⟩
  have HB3 : Hid (Below w.heap.size w w3) := below_then HB2' hb3
  have HT13 := Hid.mk (there_below (there_set HT12.out ⟨w.heap.size + 1 + 1, 1, none⟩ (by simp) _) (by rw [size_set]; omega) hb3)
  have HF13 := Hid.mk (fun i hi => rangeAt_below (rangeAt_set_other (HF12.out i hi) (p := ⟨w.heap.size + 1 + 1, 1, none⟩) (by simp) _) hb3)
  have HT23 := Hid.mk (there_below (there_set HT2.out ⟨w.heap.size + 1 + 1, 1, none⟩ (by simp; omega) _) (by rw [size_set]; exact hn2) hb3)
  have HF23 := Hid.mk (fun i hi => rangeAt_below (rangeAt_set_other (HF2.out i hi) (p := ⟨w.heap.size + 1 + 1, 1, none⟩) (by simp; omega) _) hb3)
  have C1 := Hid.mk (blk_below (blk_set_other B1.out (p := ⟨w.heap.size + 1 + 1, 1, none⟩) (by simp) _) hb3)
  have C2 := Hid.mk (blk_below (blk_set B2.out 1 _) hb3)
  simp only [size_set] at ht3 hf3 hn3
  have HT3 := Hid.mk ht3
  have HF3 := Hid.mk hf3
  clear hb3 ht3 hf3 HB2' HT12 HF12 HT2 HF2 HB2 B0 B1 B2
  rw [size_set]
  have k0 := blk_cell C2.out 0
  have k1 := blk_cell C2.out 1
  have k2 := blk_cell C2.out 2
  have l0 := blk_unfrozen C2.out 2
  have m0 := blk_cell C1.out 0
  have m1 := blk_cell C1.out 1
  have m2 := blk_cell C1.out 2
  have n0 := blk_unfrozen C1.out 0
  have n1 := blk_unfrozen C1.out 1
  have n2 := blk_unfrozen C1.out 2
  simp only [List.getElem?_toArray, List.getElem?_cons_zero, List.getElem?_cons_succ, List.setIfInBounds_toArray, List.set_cons_zero, List.set_cons_succ] at k0 k1 k2 m0 m1 m2
  go_wp2
  refine bodyPost_ret (v := .agg #[.slice (some ⟨w.heap.size + 1 + 1 + 1, 0, none⟩) I.nV I.nV, .slice (some ⟨w1.heap.size, 0, none⟩) I.nQ I.nQ, .slice (some ⟨w2.heap.size, 0, none⟩) I.nR I.nR]) (by simp [results, Tryz.results11, go_sem, m0, m1, m2]) rfl ?_
  clear k0 k1 k2 l0 m0 m1 m2 n0 n1 n2
  have S4 : ∀ (X : World) (p q r s : Addr) (u1 u2 u3 u4 : Value) (b o : Nat) (cs : List Value), X.rangeAt b o cs → p.block ≠ b → q.block ≠ b → r.block ≠ b → s.block ≠ b → ((((X.setCell p u1).setCell q u2).setCell r u3).setCell s u4).rangeAt b o cs :=
    fun X p q r s u1 u2 u3 u4 b o cs h h1 h2 h3 h4 => rangeAt_set_other (rangeAt_set_other (rangeAt_set_other (rangeAt_set_other h h1 _) h2 _) h3 _) h4 _
  have T4 : ∀ (X : World) (p q r s : Addr) (u1 u2 u3 u4 : Value) (b o n : Nat), X.there b o n → p.block ≠ b → q.block ≠ b → r.block ≠ b → s.block ≠ b → ((((X.setCell p u1).setCell q u2).setCell r u3).setCell s u4).there b o n :=
    fun X p q r s u1 u2 u3 u4 b o n h h1 h2 h3 h4 => there_set (there_set (there_set (there_set h p h1 _) q h2 _) r h3 _) s h4 _
  refine ⟨w.heap.size + 1 + 1 + 1, w1.heap.size, w2.heap.size, rfl, ?_, ⟨Or.inr ⟨_, _, rfl, fun i hi => ?_⟩, Or.inr ⟨_, _, rfl, fun i hi => ?_⟩, Or.inr ⟨_, _, rfl, fun i hi => ?_⟩⟩, by omega, hn1, hn2, ?_, ?_, ?_, ?_⟩
  · exact (((HB3.out.setCell (by show w.heap.size ≤ w.heap.size + 1 + 1; omega) _).setCell (by show w.heap.size ≤ w.heap.size + 1; omega) _).setCell (by show w.heap.size ≤ w.heap.size + 1; omega) _).setCell (by show w.heap.size ≤ w.heap.size + 1; omega) _
  · exact S4 _ _ _ _ _ _ _ _ _ _ _ _ (HF13.out i hi) (by simp) (by simp) (by simp) (by simp)
  · exact S4 _ _ _ _ _ _ _ _ _ _ _ _ (HF23.out i hi) (by simp; omega) (by simp; omega) (by simp; omega) (by simp; omega)
  · exact S4 _ _ _ _ _ _ _ _ _ _ _ _ (HF3.out i hi) (by simp; omega) (by simp; omega) (by simp; omega) (by simp; omega)
  · rw [size_set, size_set, size_set, size_set]; exact hn3
  · exact T4 _ _ _ _ _ _ _ _ _ _ _ _ HT13.out (by simp) (by simp) (by simp) (by simp)
  · exact T4 _ _ _ _ _ _ _ _ _ _ _ _ HT23.out (by simp; omega) (by simp; omega) (by simp; omega) (by simp; omega)
  · exact T4 _ _ _ _ _ _ _ _ _ _ _ _ HT3.out (by simp; omega) (by simp; omega) (by simp; omega) (by simp; omega)
end Go.Proofs.YtgooegcmgejfpaaGreatDoor.Copy
