import Derived.Test.YtgooegcmgejfpaaGreatDoorGr01
import Derived.Test.YtgooegcmgejfpaaGreatDoorProg
import Derived.WalkKit
import Derived.WalkSpells
import Derived.WalkLawsBesides
import Derived.Handy
import Derived.Deep.QuietTactic
import Derived.BigQuiet
import Derived.Deep.RegionHeld3
namespace Go.Proofs.YtgooegcmgejfpaaGreatDoor.Mem
open Go Go.RowKit
set_option linter.unusedVariables false

theorem below_alloc' {w W : World} (h : Below w.heap.size w W) (o : Obj) : Below w.heap.size w (W.alloc o) := h.alloc h.size o
theorem cell_alloc' {w : World} {p : Addr} {v : Value} (h : w.cell? p = some v) (o : Obj) : (w.alloc o).cell? p = some v := by
  rw [World.cell?_alloc_lt _ _ _ (World.block_lt_of_cell? w _ h)]; exact h
end Go.Proofs.YtgooegcmgejfpaaGreatDoor.Mem
namespace Go.Proofs.YtgooegcmgejfpaaGreatDoor.Mem
open Go Go.RowKit
set_option linter.unusedVariables false

/-- An instruction. -/
structure Is where
  (p a b c : Int)
def Is.cells (v : Is) : List Value := [.int .i64 v.p, .int .i64 v.a, .int .i64 v.b, .int .i64 v.c]
theorem Is.at {w : World} {b o : Nat} {v : Is} (h : w.rangeAt b o v.cells) : w.cell? ⟨b, o, none⟩ = some (.int .i64 v.p) ∧ w.cell? ⟨b, o + 1, none⟩ = some (.int .i64 v.a) ∧ w.cell? ⟨b, o + 2, none⟩ = some (.int .i64 v.b) ∧ w.cell? ⟨b, o + 3, none⟩ = some (.int .i64 v.c) :=
  ⟨h 0 _ rfl, h 1 _ rfl, h 2 _ rfl, h 3 _ rfl⟩
theorem Is.len (v : Is) : v.cells.length = 4 := rfl
theorem Is.one (v : Is) : v.cells.toArray.all (·.oneCell') = true := by simp [Is.cells, Value.oneCell']
theorem there4 {w : World} {b o : Nat} (h : w.there b o 4) : ∃ v0 v1 v2 v3 : Value, w.cell? ⟨b, o, none⟩ = some v0 ∧ w.cell? ⟨b, o + 1, none⟩ = some v1 ∧ w.cell? ⟨b, o + 2, none⟩ = some v2 ∧ w.cell? ⟨b, o + 3, none⟩ = some v3 ∧ w.frozen? ⟨b, o, none⟩ = false ∧ w.frozen? ⟨b, o + 1, none⟩ = false ∧ w.frozen? ⟨b, o + 2, none⟩ = false ∧ w.frozen? ⟨b, o + 3, none⟩ = false := by
  obtain ⟨v0, e0⟩ := Option.isSome_iff_exists.1 (h 0 (by omega)).1
  obtain ⟨v1, e1⟩ := Option.isSome_iff_exists.1 (h 1 (by omega)).1
  obtain ⟨v2, e2⟩ := Option.isSome_iff_exists.1 (h 2 (by omega)).1
  obtain ⟨v3, e3⟩ := Option.isSome_iff_exists.1 (h 3 (by omega)).1
  exact ⟨v0, v1, v2, v3, e0, e1, e2, e3, (h 0 (by omega)).2, (h 1 (by omega)).2, (h 2 (by omega)).2, (h 3 (by omega)).2⟩
/-- A code. -/
structure Co where
  (R S : Int) (n1 n2 n3 : Nat) (B1 B2 B3 : Nat → Is)
/-- The three blocks of a code lie in the world. -/
structure CoAt (w : World) (a1 a2 a3 : Option Addr) (C : Co) : Prop where
  b1 : SliceAt w a1 C.n1 4 (fun i => (C.B1 i).cells)
  b2 : SliceAt w a2 C.n2 4 (fun i => (C.B2 i).cells)
  b3 : SliceAt w a3 C.n3 4 (fun i => (C.B3 i).cells)
theorem CoAt.below {w w' : World} {a1 a2 a3 : Option Addr} {C : Co} (h : CoAt w a1 a2 a3 C) (hb : Below w.heap.size w w') : CoAt w' a1 a2 a3 C := ⟨h.b1.below hb, h.b2.below hb, h.b3.below hb⟩
/-- A code as a value: two numbers and three slices. -/
def coV (C : Co) (a1 a2 a3 : Option Addr) (c1 c2 c3 : Nat) : Value := .agg #[.int .i64 C.R, .int .i64 C.S, .slice a1 C.n1 c1, .slice a2 C.n2 c2, .slice a3 C.n3 c3]
end Go.Proofs.YtgooegcmgejfpaaGreatDoor.Mem
namespace Go.Proofs.YtgooegcmgejfpaaGreatDoor.Leaf
open Go Go.RowKit
set_option linter.unusedVariables false

theorem bcell {W w1 : World} (hb : Below W.heap.size W w1) : (∀ b o, b < W.heap.size → w1.cell? ⟨b, o, none⟩ = W.cell? ⟨b, o, none⟩) ∧ (∀ b o, b < W.heap.size → w1.frozen? ⟨b, o, none⟩ = W.frozen? ⟨b, o, none⟩) :=
  ⟨fun b o h => hb.cell (p := ⟨b, o, none⟩) h, fun b o h => hb.frozen (p := ⟨b, o, none⟩) h⟩

theorem below_then {w W w1 : World} (h : Below w.heap.size w W) (hb : Below W.heap.size W w1) : Below w.heap.size w w1 := h.trans (hb.mono h.size)
end Go.Proofs.YtgooegcmgejfpaaGreatDoor.Leaf
namespace Go.Proofs.YtgooegcmgejfpaaGreatDoor.Copy
open Go Go.RowKit Go.Proofs.YtgooegcmgejfpaaGreatDoor.Mem
set_option linter.unusedVariables false

set_option maxHeartbeats 400000 in
theorem toIns (p a b c : Int) (w : World) : Calls Tryz.prog 98 #[.agg #[.int .i64 p, .int .i64 a, .int .i64 b, .int .i64 c]] w fun r w' => r = .returned (.agg #[.int .i64 p, .int .i64 a, .int .i64 b, .int .i64 c]) ∧ Below w.heap.size w w' := by
  go_enter Tryz.func98, Tryz.ntmps98
  go_wp2
  go_returns
  exact ⟨rfl, by go_grown⟩

theorem infoIs : (Tryz.prog.info? 133).map (fun i => (i.zero, i.size, i.bytes)) = some (some (.agg #[.int .i64 0, .int .i64 0, .int .i64 0, .int .i64 0]), 4, 32) := by kernel_rfl

set_option maxHeartbeats 800000 in
set_option maxRecDepth 100000 in
theorem toInsS (a : Option Addr) (n cap : Nat) (V : Nat → Is) (w : World) (hs : SliceAt w a n 4 (fun i => (V i).cells)) (hn : n ≤ 1048576) :
    Calls Tryz.prog 44 #[.slice a n cap] w fun e w' => e = .returned (.slice (some ⟨w.heap.size, 0, none⟩) n n) ∧ Below w.heap.size w w' ∧ w'.there w.heap.size 0 (n * 4) ∧ (∀ i, i < n → w'.rangeAt w.heap.size (0 + i * 4) (V i).cells) ∧ w.heap.size < w'.heap.size := by
  have hmk := run_make_n (P := Tryz.prog) 36 133 _ 4 32 Tryz.underlying36 infoIs n hn (by omega)
  go_enter Tryz.func44, Tryz.ntmps44
  go_wp2
  clear hmk
  go_loopw [4] (fun i wr => ∃ k : Nat, k ≤ n ∧ i = .int .i64 k ∧ Hid (Below w.heap.size w wr) ∧ Hid (wr.there w.heap.size 0 (n * 4)) ∧ Hid (∀ i, i < k → wr.rangeAt w.heap.size (0 + i * 4) (V i).cells) ∧ Hid (w.heap.size < wr.heap.size)) (fun i _ => n - (intOf i).toNat)
  case atStart => exact ⟨0, Nat.zero_le _, rfl, (Below.refl _ _).alloc (Nat.le_refl _) _, there_make _ _ _ _, fun i hi => absurd hi (Nat.not_lt_zero _), by simp [Hid]⟩
  case round =>
    obtain ⟨k, hk, rfl, hb, ht, hf, hsz⟩ := hrel
    by_cases hlt : k < n
    · rcases hs with hs | ⟨b, off, rfl, hs⟩
      · omega
      obtain ⟨c0, c1, c2, c3⟩ := Is.at (rangeAt_below (hs k hlt) hb.out)
      clear hs
      go_wp2_with fail
      refine (toIns _ _ _ _ _).mono ?_
      rintro e w1 ⟨rfl, hb1⟩
      clear c0 c1 c2 c3
      have hlt0 : w.heap.size < wr.heap.size := hsz.out
      have hsz1 : Hid (w.heap.size < w1.heap.size) := Nat.lt_of_lt_of_le hsz.out hb1.size
      have ht1 : Hid (w1.there w.heap.size 0 (n * 4)) := there_below ht.out hlt0 hb1
      have hf1 : Hid (∀ i, i < k → w1.rangeAt w.heap.size (0 + i * 4) (V i).cells) := fun i hi => rangeAt_below (hf.out i hi) hb1
      have hb2 : Hid (Below w.heap.size w w1) := hb.out.trans (hb1.mono (by omega))
      obtain ⟨v0, v1, v2, v3, d0, d1, d2, d3, f0, f1, f2, f3⟩ := there4 (there_part (o' := k * 4) (n' := 4) ht1.out (by omega) (by omega))
      clear hb1 hlt0 ht hf hb hsz
      go_wp2
      refine ⟨⟨k + 1, by omega, by go_num, ?_, ?_, ?_, ?_⟩, by simp [intOf]; omega⟩
      · exact Below.setCells' w.heap.size (Nat.le_refl _) (V k).cells (k * 4) w1 hb2.out
      · exact World.there_setCells (w := w1) ht1.out w.heap.size (k * 4) (V k).cells
      · exact fill_step (w := w1) (C := fun i => (V i).cells) (k := 4) (fun i _ => Is.len _) (there_part ht1.out (by omega) (by omega)) hf1.out
      · show w.heap.size < (w1.setCells w.heap.size (k * 4) (V k).cells).heap.size
        rw [size_setCells]; exact hsz1.out
    · go_wp2
      go_ret
      have hkn : k = n := by omega
      subst hkn
      exact ⟨rfl, hb.out, ht.out, hf.out, hsz.out⟩

end Go.Proofs.YtgooegcmgejfpaaGreatDoor.Copy
namespace Go.Proofs.YtgooegcmgejfpaaGreatDoor.Copy
open Go Go.RowKit Go.Proofs.YtgooegcmgejfpaaGreatDoor.Mem
set_option linter.unusedVariables false

set_option maxHeartbeats 1600000 in
theorem toCode (a1 a2 a3 : Option Addr) (c1 c2 c3 : Nat) (C : Co) (w : World) (h : CoAt w a1 a2 a3 C) (h1 : C.n1 ≤ 1048576) (h2 : C.n2 ≤ 1048576) (h3 : C.n3 ≤ 1048576) :
    Calls Tryz.prog 10 #[.agg #[.int .i64 C.R, .int .i64 C.S, .slice a1 C.n1 c1, .slice a2 C.n2 c2, .slice a3 C.n3 c3]] w fun e w' => ∃ b1 b2 b3, e = .returned (.agg #[.int .i64 C.R, .int .i64 C.S, .slice (some ⟨b1, 0, none⟩) C.n1 C.n1, .slice (some ⟨b2, 0, none⟩) C.n2 C.n2, .slice (some ⟨b3, 0, none⟩) C.n3 C.n3]) ∧ Below w.heap.size w w' ∧ CoAt w' (some ⟨b1, 0, none⟩) (some ⟨b2, 0, none⟩) (some ⟨b3, 0, none⟩) C ∧
      w.heap.size ≤ b1 ∧ b1 < b2 ∧ b2 < b3 ∧ b3 < w'.heap.size ∧ w'.there b1 0 (C.n1 * 4) ∧ w'.there b2 0 (C.n2 * 4) ∧ w'.there b3 0 (C.n3 * 4) := by
  have H : Hid (CoAt w a1 a2 a3 C) := h
  clear h
  go_enter Tryz.func10, Tryz.ntmps10
  go_wp2_with fail
  refine (toInsS a1 C.n1 c1 C.B1 _ (H.out.b1.below (by go_grown)) h1).mono ?_
  rintro e w1 ⟨rfl, hb1, ht1, hf1, hn1⟩
  have HB1 : Hid (Below w.heap.size w w1) := below_then (by go_grown) hb1
  have A0 := Hid.mk (blk_below (blk_alloc (blk_alloc (blk_new w _) _) _) hb1)
  have A1 := Hid.mk (blk_below (blk_alloc (blk_new1 w _ _) _) hb1)
  have A2 := Hid.mk (blk_below (blk_new2 w _ _ _) hb1)
  simp only [World.size_alloc] at ht1 hf1 hn1
  have HT1 := Hid.mk ht1
  have HF1 := Hid.mk hf1
  clear hb1 ht1 hf1
  have k1 := blk_cell A0.out 3
  have k2 := blk_cell A2.out 2
  have k3 := blk_unfrozen A2.out 2
  simp only [List.getElem?_toArray, List.getElem?_cons_zero, List.getElem?_cons_succ] at k1 k2
  go_wp2_with fail
  clear k1 k2 k3
  have HB1' := below_set HB1.out ⟨w.heap.size + 1 + 1, 2, none⟩ (by show w.heap.size ≤ w.heap.size + 1 + 1; omega) (Value.slice (some ⟨w.heap.size + 1 + 1 + 1, 0, none⟩) C.n1 C.n1)
  refine (toInsS a2 C.n2 c2 C.B2 _ (H.out.b2.below HB1') h2).mono ?_
  rintro e w2 ⟨rfl, hb2, ht2, hf2, hn2⟩
  have HB2 : Hid (Below w.heap.size w w2) := below_then HB1' hb2
  have HT12 := Hid.mk (there_below (there_set HT1.out ⟨w.heap.size + 1 + 1, 2, none⟩ (by simp) _) (by rw [size_set]; exact hn1) hb2)
  have HF12 := Hid.mk (fun i hi => rangeAt_below (rangeAt_set_other (HF1.out i hi) (p := ⟨w.heap.size + 1 + 1, 2, none⟩) (by simp) _) hb2)
  have B0 := Hid.mk (blk_below (blk_set_other A0.out (p := ⟨w.heap.size + 1 + 1, 2, none⟩) (by simp; omega) _) hb2)
  have B1 := Hid.mk (blk_below (blk_set_other A1.out (p := ⟨w.heap.size + 1 + 1, 2, none⟩) (by simp) _) hb2)
  have B2 := Hid.mk (blk_below (blk_set A2.out 2 _) hb2)
  simp only [size_set] at ht2 hf2 hn2
  have HT2 := Hid.mk ht2
  have HF2 := Hid.mk hf2
  clear hb2 ht2 hf2 HB1' HT1 HF1 HB1 A0 A1 A2
  rw [size_set]
  have k1 := blk_cell B0.out 4
  have k2 := blk_cell B2.out 3
  have k3 := blk_unfrozen B2.out 3
  simp only [List.getElem?_toArray, List.getElem?_cons_zero, List.getElem?_cons_succ, List.setIfInBounds_toArray, List.set_cons_zero, List.set_cons_succ] at k1 k2
  go_wp2_with fail
  clear k1 k2 k3
  have HB2' := below_set HB2.out ⟨w.heap.size + 1 + 1, 3, none⟩ (by show w.heap.size ≤ w.heap.size + 1 + 1; omega) (Value.slice (some ⟨w1.heap.size, 0, none⟩) C.n2 C.n2)
  refine (toInsS a3 C.n3 c3 C.B3 _ (H.out.b3.below HB2') h3).mono ?_
  rintro e w3 ⟨rfl, hb3, ht3, hf3, hn3⟩
  have HB3 : Hid (Below w.heap.size w w3) := below_then HB2' hb3
  have HT13 := Hid.mk (there_below (there_set HT12.out ⟨w.heap.size + 1 + 1, 3, none⟩ (by simp) _) (by rw [size_set]; omega) hb3)
  have HF13 := Hid.mk (fun i hi => rangeAt_below (rangeAt_set_other (HF12.out i hi) (p := ⟨w.heap.size + 1 + 1, 3, none⟩) (by simp) _) hb3)
  have HT23 := Hid.mk (there_below (there_set HT2.out ⟨w.heap.size + 1 + 1, 3, none⟩ (by simp; omega) _) (by rw [size_set]; exact hn2) hb3)
  have HF23 := Hid.mk (fun i hi => rangeAt_below (rangeAt_set_other (HF2.out i hi) (p := ⟨w.heap.size + 1 + 1, 3, none⟩) (by simp; omega) _) hb3)
  have C1 := Hid.mk (blk_below (blk_set_other B1.out (p := ⟨w.heap.size + 1 + 1, 3, none⟩) (by simp) _) hb3)
  have C2 := Hid.mk (blk_below (blk_set B2.out 3 _) hb3)
  simp only [size_set] at ht3 hf3 hn3
  have HT3 := Hid.mk ht3
  have HF3 := Hid.mk hf3
  clear hb3 ht3 hf3 HB2' HT12 HF12 HT2 HF2 HB2 B0 B1 B2
  rw [size_set]
  have k0 := blk_cell C2.out 0
  have k1 := blk_cell C2.out 1
  have k2 := blk_cell C2.out 2
  have k3 := blk_cell C2.out 3
  have k4 := blk_cell C2.out 4
  have l0 := blk_unfrozen C2.out 4
  have m0 := blk_cell C1.out 0
  have m1 := blk_cell C1.out 1
  have m2 := blk_cell C1.out 2
  have m3 := blk_cell C1.out 3
  have m4 := blk_cell C1.out 4
  have n0 := blk_unfrozen C1.out 0
  have n1 := blk_unfrozen C1.out 1
  have n2 := blk_unfrozen C1.out 2
  have n3 := blk_unfrozen C1.out 3
  have n4 := blk_unfrozen C1.out 4
  simp only [List.getElem?_toArray, List.getElem?_cons_zero, List.getElem?_cons_succ, List.setIfInBounds_toArray, List.set_cons_zero, List.set_cons_succ] at k0 k1 k2 k3 k4 m0 m1 m2 m3 m4
  go_wp2
  refine bodyPost_ret (v := .agg #[.int .i64 C.R, .int .i64 C.S, .slice (some ⟨w.heap.size + 1 + 1 + 1, 0, none⟩) C.n1 C.n1, .slice (some ⟨w1.heap.size, 0, none⟩) C.n2 C.n2, .slice (some ⟨w2.heap.size, 0, none⟩) C.n3 C.n3]) (by simp [results, Tryz.results10, go_sem, m0, m1, m2, m3, m4]) rfl ?_
  clear k0 k1 k2 k3 k4 l0 m0 m1 m2 m3 m4 n0 n1 n2 n3 n4
  have S4 : ∀ (X : World) (p0 p1 p2 p3 p4 p5 : Addr) (u0 u1 u2 u3 u4 u5 : Value) (b o : Nat) (cs : List Value), X.rangeAt b o cs → p0.block ≠ b → p1.block ≠ b → p2.block ≠ b → p3.block ≠ b → p4.block ≠ b → p5.block ≠ b → ((((((X.setCell p0 u0).setCell p1 u1).setCell p2 u2).setCell p3 u3).setCell p4 u4).setCell p5 u5).rangeAt b o cs :=
    fun X p0 p1 p2 p3 p4 p5 u0 u1 u2 u3 u4 u5 b o cs h h0 h1 h2 h3 h4 h5 => rangeAt_set_other (rangeAt_set_other (rangeAt_set_other (rangeAt_set_other (rangeAt_set_other (rangeAt_set_other (h) h0 _) h1 _) h2 _) h3 _) h4 _) h5 _
  have T4 : ∀ (X : World) (p0 p1 p2 p3 p4 p5 : Addr) (u0 u1 u2 u3 u4 u5 : Value) (b o n : Nat), X.there b o n → p0.block ≠ b → p1.block ≠ b → p2.block ≠ b → p3.block ≠ b → p4.block ≠ b → p5.block ≠ b → ((((((X.setCell p0 u0).setCell p1 u1).setCell p2 u2).setCell p3 u3).setCell p4 u4).setCell p5 u5).there b o n :=
    fun X p0 p1 p2 p3 p4 p5 u0 u1 u2 u3 u4 u5 b o n h h0 h1 h2 h3 h4 h5 => there_set (there_set (there_set (there_set (there_set (there_set (h) p0 h0 _) p1 h1 _) p2 h2 _) p3 h3 _) p4 h4 _) p5 h5 _
  refine ⟨w.heap.size + 1 + 1 + 1, w1.heap.size, w2.heap.size, rfl, ?_, ⟨Or.inr ⟨_, _, rfl, fun i hi => ?_⟩, Or.inr ⟨_, _, rfl, fun i hi => ?_⟩, Or.inr ⟨_, _, rfl, fun i hi => ?_⟩⟩, by omega, hn1, hn2, ?_, ?_, ?_, ?_⟩
  · exact ((((((HB3.out.setCell (by first | (show w.heap.size ≤ w.heap.size + 1 + 1; omega) | (show w.heap.size ≤ w.heap.size + 1; omega)) _).setCell (by first | (show w.heap.size ≤ w.heap.size + 1 + 1; omega) | (show w.heap.size ≤ w.heap.size + 1; omega)) _).setCell (by first | (show w.heap.size ≤ w.heap.size + 1 + 1; omega) | (show w.heap.size ≤ w.heap.size + 1; omega)) _).setCell (by first | (show w.heap.size ≤ w.heap.size + 1 + 1; omega) | (show w.heap.size ≤ w.heap.size + 1; omega)) _).setCell (by first | (show w.heap.size ≤ w.heap.size + 1 + 1; omega) | (show w.heap.size ≤ w.heap.size + 1; omega)) _).setCell (by first | (show w.heap.size ≤ w.heap.size + 1 + 1; omega) | (show w.heap.size ≤ w.heap.size + 1; omega)) _)
  · exact S4 _ _ _ _ _ _ _ _ _ _ _ _ _ _ _ _ (HF13.out i hi) (by simp) (by simp) (by simp) (by simp) (by simp) (by simp)
  · exact S4 _ _ _ _ _ _ _ _ _ _ _ _ _ _ _ _ (HF23.out i hi) (by simp; omega) (by simp; omega) (by simp; omega) (by simp; omega) (by simp; omega) (by simp; omega)
  · exact S4 _ _ _ _ _ _ _ _ _ _ _ _ _ _ _ _ (HF3.out i hi) (by simp; omega) (by simp; omega) (by simp; omega) (by simp; omega) (by simp; omega) (by simp; omega)
  · rw [size_set, size_set, size_set, size_set, size_set, size_set]; exact hn3
  · exact T4 _ _ _ _ _ _ _ _ _ _ _ _ _ _ _ _ HT13.out (by simp) (by simp) (by simp) (by simp) (by simp) (by simp)
  · exact T4 _ _ _ _ _ _ _ _ _ _ _ _ _ _ _ _ HT23.out (by simp; omega) (by simp; omega) (by simp; omega) (by simp; omega) (by simp; omega) (by simp; omega)
  · exact T4 _ _ _ _ _ _ _ _ _ _ _ _ _ _ _ _ HT3.out (by simp; omega) (by simp; omega) (by simp; omega) (by simp; omega) (by simp; omega) (by simp; omega)
end Go.Proofs.YtgooegcmgejfpaaGreatDoor.Copy
