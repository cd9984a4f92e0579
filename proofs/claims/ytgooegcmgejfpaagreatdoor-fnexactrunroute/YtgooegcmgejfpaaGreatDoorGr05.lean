import Derived.Test.YtgooegcmgejfpaaGreatDoorGr02
namespace Go.Proofs.YtgooegcmgejfpaaGreatDoor.Mem
open Go Go.RowKit
set_option linter.unusedVariables false

/-- A number alone in its cell. -/
def ci (z : Int) : List Value := [.int .i64 z]
theorem ci.at {w : World} {b o : Nat} {z : Int} (h : w.rangeAt b o (ci z)) : w.cell? ⟨b, o, none⟩ = some (.int .i64 z) := h 0 _ rfl
theorem ci.len (z : Int) : (ci z).length = 1 := rfl
theorem there1 {w : World} {b o : Nat} (h : w.there b o 1) : ∃ v0 : Value, w.cell? ⟨b, o, none⟩ = some v0 ∧ w.frozen? ⟨b, o, none⟩ = false := by
  obtain ⟨v0, e0⟩ := Option.isSome_iff_exists.1 (h 0 (by omega)).1
  exact ⟨v0, e0, (h 0 (by omega)).2⟩
/-- A list of numbers. -/
def NumsAt (w : World) (a : Option Addr) (n : Nat) (L : Nat → Int) : Prop := SliceAt w a n 1 (fun i => ci (L i))
theorem NumsAt.below {w w' : World} {a : Option Addr} {n : Nat} {L : Nat → Int} (h : NumsAt w a n L) (hb : Below w.heap.size w w') : NumsAt w' a n L := SliceAt.below h hb
theorem NumsAt.at {w : World} {a : Option Addr} {n : Nat} {L : Nat → Int} (h : NumsAt w a n L) {i : Nat} (hi : i < n) : ∃ b off, a = some ⟨b, off, none⟩ ∧ w.cell? ⟨b, off + i, none⟩ = some (.int .i64 (L i)) := by
  rcases h with h | ⟨b, off, ha, h⟩
  · omega
  · have := ci.at (h i hi)
    rw [Nat.mul_one] at this
    exact ⟨b, off, ha, this⟩
/-- A state. -/
structure St where
  (p r d t s l : Int) (n1 n2 n3 : Nat) (L1 L2 L3 : Nat → Int)
/-- The three lists of a state lie in the world. -/
structure StAt (w : World) (a1 a2 a3 : Option Addr) (S : St) : Prop where
  s1 : NumsAt w a1 S.n1 S.L1
  s2 : NumsAt w a2 S.n2 S.L2
  s3 : NumsAt w a3 S.n3 S.L3
theorem StAt.below {w w' : World} {a1 a2 a3 : Option Addr} {S : St} (h : StAt w a1 a2 a3 S) (hb : Below w.heap.size w w') : StAt w' a1 a2 a3 S := ⟨h.s1.below hb, h.s2.below hb, h.s3.below hb⟩
/-- A state as a value: six numbers and three slices. -/
def stV (S : St) (a1 a2 a3 : Option Addr) (c1 c2 c3 : Nat) : Value := .agg #[.int .i64 S.p, .int .i64 S.r, .int .i64 S.d, .int .i64 S.t, .int .i64 S.s, .int .i64 S.l, .slice a1 S.n1 c1, .slice a2 S.n2 c2, .slice a3 S.n3 c3]
end Go.Proofs.YtgooegcmgejfpaaGreatDoor.Mem
namespace Go.Proofs.YtgooegcmgejfpaaGreatDoor.Copy
open Go Go.RowKit Go.Proofs.YtgooegcmgejfpaaGreatDoor.Mem
set_option linter.unusedVariables false

theorem infoI : (Tryz.prog.info? 2).map (fun i => (i.zero, i.size, i.bytes)) = some (some (.int .i64 0), 1, 8) := by kernel_rfl

set_option maxHeartbeats 800000 in
set_option maxRecDepth 100000 in
theorem toInt64S (a : Option Addr) (n cap : Nat) (V : Nat → Int) (w : World) (hs : NumsAt w a n V) (hn : n ≤ 1048576) :
    Calls Tryz.prog 28 #[.slice a n cap] w fun e w' => e = .returned (.slice (some ⟨w.heap.size, 0, none⟩) n n) ∧ Below w.heap.size w w' ∧ w'.there w.heap.size 0 (n * 1) ∧ (∀ i, i < n → w'.rangeAt w.heap.size (0 + i * 1) (ci (V i))) ∧ w.heap.size < w'.heap.size := by
  have hmk := run_make_n (P := Tryz.prog) 32 2 _ 1 8 Tryz.underlying32 infoI n hn (by omega)
  have HS := Hid.mk hs
  clear hs
  go_enter Tryz.func28, Tryz.ntmps28
  go_wp2
  clear hmk
  go_loopw [4] (fun i wr => ∃ k : Nat, k ≤ n ∧ i = .int .i64 k ∧ Hid (Below w.heap.size w wr) ∧ Hid (wr.there w.heap.size 0 (n * 1)) ∧ Hid (∀ i, i < k → wr.rangeAt w.heap.size (0 + i * 1) (ci (V i))) ∧ Hid (w.heap.size < wr.heap.size)) (fun i _ => n - (intOf i).toNat)
  case atStart => exact ⟨0, Nat.zero_le _, rfl, (Below.refl _ _).alloc (Nat.le_refl _) _, by unfold Hid; rw [Nat.mul_one]; exact there_make _ _ _ _, fun i hi => absurd hi (Nat.not_lt_zero _), by simp [Hid]⟩
  case round =>
    obtain ⟨k, hk, rfl, hb, ht, hf, hsz⟩ := hrel
    by_cases hlt : k < n
    · obtain ⟨b, off, rfl, hs⟩ := NumsAt.at (HS.out.below hb.out) hlt
      obtain ⟨v0, d0, f0⟩ := there1 (there_part (o' := k) (n' := 1) ht.out (by omega) (by omega))
      have k0 : (0 : Int) ≤ (k : Int) := by omega
      have k1 : (k : Int) < (n : Int) := by omega
      go_wp2
      refine ⟨⟨k + 1, by omega, by go_num, ?_, ?_, ?_, ?_⟩, by simp [intOf]; omega⟩
      · exact Below.setCells' w.heap.size (Nat.le_refl _) (ci (V k)) k wr hb.out
      · exact World.there_setCells (w := wr) ht.out w.heap.size k (ci (V k))
      · have := fill_step (w := wr) (B := w.heap.size) (C := fun i => ci (V i)) (k := 1) (m := k) (fun i _ => ci.len _) (there_part ht.out (by omega) (by omega)) hf.out
        rw [Nat.mul_one] at this
        exact this
      · show w.heap.size < (wr.setCells w.heap.size k (ci (V k))).heap.size
        rw [size_setCells]; exact hsz.out
    · go_wp2
      go_ret
      have hkn : k = n := by omega
      subst hkn
      exact ⟨rfl, hb.out, ht.out, hf.out, hsz.out⟩

set_option maxHeartbeats 3200000 in
set_option maxRecDepth 100000 in
theorem toState (a1 a2 a3 : Option Addr) (c1 c2 c3 : Nat) (S : St) (w : World) (h : StAt w a1 a2 a3 S) (h1 : S.n1 ≤ 1048576) (h2 : S.n2 ≤ 1048576) (h3 : S.n3 ≤ 1048576) :
    Calls Tryz.prog 22 #[.agg #[.int .i64 S.p, .int .i64 S.r, .int .i64 S.d, .int .i64 S.t, .int .i64 S.s, .int .i64 S.l, .slice a1 S.n1 c1, .slice a2 S.n2 c2, .slice a3 S.n3 c3]] w fun e w' => ∃ b1 b2 b3, e = .returned (.agg #[.int .i64 S.p, .int .i64 S.r, .int .i64 S.d, .int .i64 S.t, .int .i64 S.s, .int .i64 S.l, .slice (some ⟨b1, 0, none⟩) S.n1 S.n1, .slice (some ⟨b2, 0, none⟩) S.n2 S.n2, .slice (some ⟨b3, 0, none⟩) S.n3 S.n3]) ∧ Below w.heap.size w w' ∧ StAt w' (some ⟨b1, 0, none⟩) (some ⟨b2, 0, none⟩) (some ⟨b3, 0, none⟩) S ∧
      w.heap.size ≤ b1 ∧ b1 < b2 ∧ b2 < b3 ∧ b3 < w'.heap.size ∧ w'.there b1 0 (S.n1 * 1) ∧ w'.there b2 0 (S.n2 * 1) ∧ w'.there b3 0 (S.n3 * 1) := by
  have H : Hid (StAt w a1 a2 a3 S) := h
  clear h
  go_enter Tryz.func22, Tryz.ntmps22
  go_wp2_with fail
  refine (toInt64S a1 S.n1 c1 S.L1 _ (H.out.s1.below (by go_grown)) h1).mono ?_
  rintro e w1 ⟨rfl, hb1, ht1, hf1, hn1⟩
  have HB1 : Hid (Below w.heap.size w w1) := below_then (by go_grown) hb1
  have A0 := Hid.mk (blk_below (blk_alloc (blk_alloc (blk_new w _) _) _) hb1)
  have A1 := Hid.mk (blk_below (blk_alloc (blk_new1 w _ _) _) hb1)
  have A2 := Hid.mk (blk_below (blk_new2 w _ _ _) hb1)
  simp only [World.size_alloc] at ht1 hf1 hn1
  have HT1 := Hid.mk ht1
  have HF1 := Hid.mk hf1
  clear hb1 ht1 hf1
  have k1 := blk_cell A0.out 7
  have k2 := blk_cell A2.out 6
  have k3 := blk_unfrozen A2.out 6
  simp only [List.getElem?_toArray, List.getElem?_cons_zero, List.getElem?_cons_succ] at k1 k2
  go_wp2_with fail
  clear k1 k2 k3
  have HB1' := below_set HB1.out ⟨w.heap.size + 1 + 1, 6, none⟩ (by show w.heap.size ≤ w.heap.size + 1 + 1; omega) (Value.slice (some ⟨w.heap.size + 1 + 1 + 1, 0, none⟩) S.n1 S.n1)
  refine (toInt64S a2 S.n2 c2 S.L2 _ (H.out.s2.below HB1') h2).mono ?_
  rintro e w2 ⟨rfl, hb2, ht2, hf2, hn2⟩
  have HB2 : Hid (Below w.heap.size w w2) := below_then HB1' hb2
  have HT12 := Hid.mk (there_below (there_set HT1.out ⟨w.heap.size + 1 + 1, 6, none⟩ (by simp) _) (by rw [size_set]; exact hn1) hb2)
  have HF12 := Hid.mk (fun i hi => rangeAt_below (rangeAt_set_other (HF1.out i hi) (p := ⟨w.heap.size + 1 + 1, 6, none⟩) (by simp) _) hb2)
  have B0 := Hid.mk (blk_below (blk_set_other A0.out (p := ⟨w.heap.size + 1 + 1, 6, none⟩) (by simp; omega) _) hb2)
  have B1 := Hid.mk (blk_below (blk_set_other A1.out (p := ⟨w.heap.size + 1 + 1, 6, none⟩) (by simp) _) hb2)
  have B2 := Hid.mk (blk_below (blk_set A2.out 6 _) hb2)
  simp only [size_set] at ht2 hf2 hn2
  have HT2 := Hid.mk ht2
  have HF2 := Hid.mk hf2
  clear hb2 ht2 hf2 HB1' HT1 HF1 HB1 A0 A1 A2
  rw [size_set]
  have k1 := blk_cell B0.out 8
  have k2 := blk_cell B2.out 7
  have k3 := blk_unfrozen B2.out 7
  simp only [List.getElem?_toArray, List.getElem?_cons_zero, List.getElem?_cons_succ, List.setIfInBounds_toArray, List.set_cons_zero, List.set_cons_succ] at k1 k2
  go_wp2_with fail
  clear k1 k2 k3
  have HB2' := below_set HB2.out ⟨w.heap.size + 1 + 1, 7, none⟩ (by show w.heap.size ≤ w.heap.size + 1 + 1; omega) (Value.slice (some ⟨w1.heap.size, 0, none⟩) S.n2 S.n2)
  refine (toInt64S a3 S.n3 c3 S.L3 _ (H.out.s3.below HB2') h3).mono ?_
  rintro e w3 ⟨rfl, hb3, ht3, hf3, hn3⟩
  have HB3 : Hid (Below w.heap.size w w3) := below_then HB2' hb3
  have HT13 := Hid.mk (there_below (there_set HT12.out ⟨w.heap.size + 1 + 1, 7, none⟩ (by simp) _) (by rw [size_set]; omega) hb3)
  have HF13 := Hid.mk (fun i hi => rangeAt_below (rangeAt_set_other (HF12.out i hi) (p := ⟨w.heap.size + 1 + 1, 7, none⟩) (by simp) _) hb3)
  have HT23 := Hid.mk (there_below (there_set HT2.out ⟨w.heap.size + 1 + 1, 7, none⟩ (by simp; omega) _) (by rw [size_set]; exact hn2) hb3)
  have HF23 := Hid.mk (fun i hi => rangeAt_below (rangeAt_set_other (HF2.out i hi) (p := ⟨w.heap.size + 1 + 1, 7, none⟩) (by simp; omega) _) hb3)
  have C1 := Hid.mk (blk_below (blk_set_other B1.out (p := ⟨w.heap.size + 1 + 1, 7, none⟩) (by simp) _) hb3)
  have C2 := Hid.mk (blk_below (blk_set B2.out 7 _) hb3)
  simp only [size_set] at ht3 hf3 hn3
  have HT3 := Hid.mk ht3
  have HF3 := Hid.mk hf3
  clear hb3 ht3 hf3 HB2' HT12 HF12 HT2 HF2 HB2 B0 B1 B2
  rw [size_set]
  have k0 := blk_cell C2.out 0
  have k1 := blk_cell C2.out 1
  have k2 := blk_cell C2.out 2
  have k3 := blk_cell C2.out 3
  have k4 := blk_cell C2.out 4
  have k5 := blk_cell C2.out 5
  have k6 := blk_cell C2.out 6
  have k7 := blk_cell C2.out 7
  have k8 := blk_cell C2.out 8
  have l0 := blk_unfrozen C2.out 8
  have m0 := blk_cell C1.out 0
  have m1 := blk_cell C1.out 1
  have m2 := blk_cell C1.out 2
  have m3 := blk_cell C1.out 3
  have m4 := blk_cell C1.out 4
  have m5 := blk_cell C1.out 5
  have m6 := blk_cell C1.out 6
  have m7 := blk_cell C1.out 7
  have m8 := blk_cell C1.out 8
  have n0 := blk_unfrozen C1.out 0
  have n1 := blk_unfrozen C1.out 1
  have n2 := blk_unfrozen C1.out 2
  have n3 := blk_unfrozen C1.out 3
  have n4 := blk_unfrozen C1.out 4
  have n5 := blk_unfrozen C1.out 5
  have n6 := blk_unfrozen C1.out 6
  have n7 := blk_unfrozen C1.out 7
  have n8 := blk_unfrozen C1.out 8
  simp only [List.getElem?_toArray, List.getElem?_cons_zero, List.getElem?_cons_succ, List.setIfInBounds_toArray, List.set_cons_zero, List.set_cons_succ] at k0 k1 k2 k3 k4 k5 k6 k7 k8 m0 m1 m2 m3 m4 m5 m6 m7 m8
  go_wp2
  refine bodyPost_ret (v := .agg #[.int .i64 S.p, .int .i64 S.r, .int .i64 S.d, .int .i64 S.t, .int .i64 S.s, .int .i64 S.l, .slice (some ⟨w.heap.size + 1 + 1 + 1, 0, none⟩) S.n1 S.n1, .slice (some ⟨w1.heap.size, 0, none⟩) S.n2 S.n2, .slice (some ⟨w2.heap.size, 0, none⟩) S.n3 S.n3]) (by simp [results, Tryz.results22, go_sem, m0, m1, m2, m3, m4, m5, m6, m7, m8]) rfl ?_
  clear k0 k1 k2 k3 k4 k5 k6 k7 k8 m0 m1 m2 m3 m4 m5 m6 m7 m8 l0 n0 n1 n2 n3 n4 n5 n6 n7 n8
  have S4 : ∀ (X : World) (p0 p1 p2 p3 p4 p5 p6 p7 p8 p9 : Addr) (u0 u1 u2 u3 u4 u5 u6 u7 u8 u9 : Value) (b o : Nat) (cs : List Value), X.rangeAt b o cs → p0.block ≠ b → p1.block ≠ b → p2.block ≠ b → p3.block ≠ b → p4.block ≠ b → p5.block ≠ b → p6.block ≠ b → p7.block ≠ b → p8.block ≠ b → p9.block ≠ b → ((((((((((X.setCell p0 u0).setCell p1 u1).setCell p2 u2).setCell p3 u3).setCell p4 u4).setCell p5 u5).setCell p6 u6).setCell p7 u7).setCell p8 u8).setCell p9 u9).rangeAt b o cs :=
    fun X p0 p1 p2 p3 p4 p5 p6 p7 p8 p9 u0 u1 u2 u3 u4 u5 u6 u7 u8 u9 b o cs h h0 h1 h2 h3 h4 h5 h6 h7 h8 h9 => rangeAt_set_other (rangeAt_set_other (rangeAt_set_other (rangeAt_set_other (rangeAt_set_other (rangeAt_set_other (rangeAt_set_other (rangeAt_set_other (rangeAt_set_other (rangeAt_set_other (h) h0 _) h1 _) h2 _) h3 _) h4 _) h5 _) h6 _) h7 _) h8 _) h9 _
  have T4 : ∀ (X : World) (p0 p1 p2 p3 p4 p5 p6 p7 p8 p9 : Addr) (u0 u1 u2 u3 u4 u5 u6 u7 u8 u9 : Value) (b o n : Nat), X.there b o n → p0.block ≠ b → p1.block ≠ b → p2.block ≠ b → p3.block ≠ b → p4.block ≠ b → p5.block ≠ b → p6.block ≠ b → p7.block ≠ b → p8.block ≠ b → p9.block ≠ b → ((((((((((X.setCell p0 u0).setCell p1 u1).setCell p2 u2).setCell p3 u3).setCell p4 u4).setCell p5 u5).setCell p6 u6).setCell p7 u7).setCell p8 u8).setCell p9 u9).there b o n :=
    fun X p0 p1 p2 p3 p4 p5 p6 p7 p8 p9 u0 u1 u2 u3 u4 u5 u6 u7 u8 u9 b o n h h0 h1 h2 h3 h4 h5 h6 h7 h8 h9 => there_set (there_set (there_set (there_set (there_set (there_set (there_set (there_set (there_set (there_set (h) p0 h0 _) p1 h1 _) p2 h2 _) p3 h3 _) p4 h4 _) p5 h5 _) p6 h6 _) p7 h7 _) p8 h8 _) p9 h9 _
  refine ⟨w.heap.size + 1 + 1 + 1, w1.heap.size, w2.heap.size, rfl, ?_, ⟨Or.inr ⟨_, _, rfl, fun i hi => ?_⟩, Or.inr ⟨_, _, rfl, fun i hi => ?_⟩, Or.inr ⟨_, _, rfl, fun i hi => ?_⟩⟩, by omega, hn1, hn2, ?_, ?_, ?_, ?_⟩
  · exact ((((((((((HB3.out.setCell (by first | (show w.heap.size ≤ w.heap.size + 1 + 1; omega) | (show w.heap.size ≤ w.heap.size + 1; omega)) _).setCell (by first | (show w.heap.size ≤ w.heap.size + 1 + 1; omega) | (show w.heap.size ≤ w.heap.size + 1; omega)) _).setCell (by first | (show w.heap.size ≤ w.heap.size + 1 + 1; omega) | (show w.heap.size ≤ w.heap.size + 1; omega)) _).setCell (by first | (show w.heap.size ≤ w.heap.size + 1 + 1; omega) | (show w.heap.size ≤ w.heap.size + 1; omega)) _).setCell (by first | (show w.heap.size ≤ w.heap.size + 1 + 1; omega) | (show w.heap.size ≤ w.heap.size + 1; omega)) _).setCell (by first | (show w.heap.size ≤ w.heap.size + 1 + 1; omega) | (show w.heap.size ≤ w.heap.size + 1; omega)) _).setCell (by first | (show w.heap.size ≤ w.heap.size + 1 + 1; omega) | (show w.heap.size ≤ w.heap.size + 1; omega)) _).setCell (by first | (show w.heap.size ≤ w.heap.size + 1 + 1; omega) | (show w.heap.size ≤ w.heap.size + 1; omega)) _).setCell (by first | (show w.heap.size ≤ w.heap.size + 1 + 1; omega) | (show w.heap.size ≤ w.heap.size + 1; omega)) _).setCell (by first | (show w.heap.size ≤ w.heap.size + 1 + 1; omega) | (show w.heap.size ≤ w.heap.size + 1; omega)) _)
  · exact S4 _ _ _ _ _ _ _ _ _ _ _ _ _ _ _ _ _ _ _ _ _ _ _ _ (HF13.out i hi) (by simp) (by simp) (by simp) (by simp) (by simp) (by simp) (by simp) (by simp) (by simp) (by simp)
  · exact S4 _ _ _ _ _ _ _ _ _ _ _ _ _ _ _ _ _ _ _ _ _ _ _ _ (HF23.out i hi) (by simp; omega) (by simp; omega) (by simp; omega) (by simp; omega) (by simp; omega) (by simp; omega) (by simp; omega) (by simp; omega) (by simp; omega) (by simp; omega)
  · exact S4 _ _ _ _ _ _ _ _ _ _ _ _ _ _ _ _ _ _ _ _ _ _ _ _ (HF3.out i hi) (by simp; omega) (by simp; omega) (by simp; omega) (by simp; omega) (by simp; omega) (by simp; omega) (by simp; omega) (by simp; omega) (by simp; omega) (by simp; omega)
  · rw [size_set, size_set, size_set, size_set, size_set, size_set, size_set, size_set, size_set, size_set]; exact hn3
  · exact T4 _ _ _ _ _ _ _ _ _ _ _ _ _ _ _ _ _ _ _ _ _ _ _ _ HT13.out (by simp) (by simp) (by simp) (by simp) (by simp) (by simp) (by simp) (by simp) (by simp) (by simp)
  · exact T4 _ _ _ _ _ _ _ _ _ _ _ _ _ _ _ _ _ _ _ _ _ _ _ _ HT23.out (by simp; omega) (by simp; omega) (by simp; omega) (by simp; omega) (by simp; omega) (by simp; omega) (by simp; omega) (by simp; omega) (by simp; omega) (by simp; omega)
  · exact T4 _ _ _ _ _ _ _ _ _ _ _ _ _ _ _ _ _ _ _ _ _ _ _ _ HT3.out (by simp; omega) (by simp; omega) (by simp; omega) (by simp; omega) (by simp; omega) (by simp; omega) (by simp; omega) (by simp; omega) (by simp; omega) (by simp; omega)
end Go.Proofs.YtgooegcmgejfpaaGreatDoor.Copy
