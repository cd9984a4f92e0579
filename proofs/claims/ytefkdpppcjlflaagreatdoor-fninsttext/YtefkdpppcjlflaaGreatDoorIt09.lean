import Derived.Test.YtefkdpppcjlflaaGreatDoorIt08
namespace Go.Proofs.YtefkdpppcjlflaaGreatDoor.Draw
open Go Go.RowKit Go.Proofs.YtefkdpppcjlflaaGreatDoor.Mem Go.Proofs.YtefkdpppcjlflaaGreatDoor.Parse
set_option linter.unusedVariables false
set_option linter.unusedSimpArgs false
attribute [local go_sem ↓] Go.wp_at_zero Go.wp_at_succ

structure Pl where
  (x y o c h : Int)
def Pl.vals (p : Pl) : Array Value := #[.int .i64 p.x, .int .i64 p.y, .int .i64 p.o, .int .i64 p.c, .int .i64 p.h]
def zP : Pl := ⟨0, 0, 0, 0, 0⟩
def dOpt (bs : List UInt8) (s : DS) (n m : Nat) : Nat × DS := if (dOnce bs s n).1 then dBelow bs (dOnce bs s n).2 m else (0, (dOnce bs s n).2)
def dPlace (bs : List UInt8) (s : DS) : Pl × DS :=
  let a := dRange bs s (-12) 12
  let b := dRange bs a.2 (-12) 12
  let o := dOpt bs b.2 2 60
  let c := dBelow bs o.2 110
  let h := dOpt bs c.2 3 6
  (⟨a.1, b.1, (o.1 : Int), (o.1 : Int) + 25 + (c.1 : Int), (h.1 : Int)⟩, h.2)
theorem DC.other {B g r i : Nat} {w : World} {bs : List UInt8} {s : DS} {v : Value} (h : DC B g w bs s) (hr : B ≤ r) (hne : g ≠ r) : DC B g (w.setCell ⟨r, i, none⟩ v) bs s := by
  obtain ⟨h1, h2, u, hx, ht⟩ := h
  exact ⟨h1, h2, u, blk_set_other hx hne v, ht.set hr i v⟩
/-- A draw on its way, with a record of its own at block r. -/
structure PS (B g r : Nat) (T : TypeId) (w0 w : World) (bs : List UInt8) (s : DS) (cs : Array Value) : Prop where
  d : DC B g w bs s
  x : w.heap[r]? = some (.cells cs T)
  gb : w0.grownBy w (some g)
theorem PS.call {B g r : Nat} {T : TypeId} {w0 w w' : World} {bs : List UInt8} {s s' : DS} {cs : Array Value} (h : PS B g r T w0 w bs s cs) (d : DC B g w' bs s') (hg : w.grownBy w' (some g)) (hne : r ≠ g) : PS B g r T w0 w' bs s' cs := ⟨d, blk_grown h.x hg hne, gb_then h.gb hg⟩
theorem PS.set {B g r : Nat} {T : TypeId} {w0 w : World} {bs : List UInt8} {s : DS} {cs : Array Value} (h : PS B g r T w0 w bs s cs) (k : Nat) (v : Value) (hB : B ≤ r) (hne : r ≠ g) (hr : w0.heap.size ≤ r) : PS B g r T w0 (w.setCell ⟨r, k, none⟩ v) bs s (cs.setIfInBounds k v) := ⟨h.d.other hB hne.symm, blk_set h.x k v, gb_new h.gb hr⟩
theorem PS.drew {B g r : Nat} {T : TypeId} {w0 w : World} {bs : List UInt8} {s : DS} {cs : Array Value} (h : PS B g r T w0 w bs s cs) : PS B g r T w0 w.drew bs s cs := by
  obtain ⟨⟨d1, d2, v, d3, d4⟩, x, gb⟩ := h
  exact ⟨⟨d1, d2, v, d3, d4.below ⟨rfl, rfl, rfl, Nat.le_refl _, fun _ _ => rfl⟩⟩, x, ⟨gb.os, gb.tape, gb.output, gb.size, gb.block⟩⟩
theorem other_set {w : World} {r r' i : Nat} {o : Obj} {v : Value} (h : w.heap[r]? = some o) (hne : r ≠ r') : (w.setCell ⟨r', i, none⟩ v).heap[r]? = some o := blk_set_other h hne v

theorem finP {B g r : Nat} {w0 W : World} {bs : List UInt8} {s : DS} {z0 z1 z2 z3 z4 : Value} (hZ : W.heap[r]? = some (.cells #[z0, z1, z2, z3, z4] 43)) (hd : DC B g W bs s) (hgb : w0.grownBy W (some g)) (hB : B ≤ r) (hne : r ≠ g) (hr : w0.heap.size ≤ r) (x0 x1 x2 x3 x4 : Value) :
    ∃ Z, Z = ((((W.setCell ⟨r, 0, none⟩ x0).setCell ⟨r, 1, none⟩ x1).setCell ⟨r, 2, none⟩ x2).setCell ⟨r, 3, none⟩ x3).setCell ⟨r, 4, none⟩ x4 ∧ Z.heap[r]? = some (.cells #[x0, x1, x2, x3, x4] 43) ∧ DC B g Z bs s ∧ w0.grownBy Z (some g) := by
  have b0 := blk_set hZ 0 x0
  simp only [List.setIfInBounds_toArray, List.set_cons_zero, List.set_cons_succ] at b0
  have b1 := blk_set b0 1 x1
  simp only [List.setIfInBounds_toArray, List.set_cons_zero, List.set_cons_succ] at b1
  have b2 := blk_set b1 2 x2
  simp only [List.setIfInBounds_toArray, List.set_cons_zero, List.set_cons_succ] at b2
  have b3 := blk_set b2 3 x3
  simp only [List.setIfInBounds_toArray, List.set_cons_zero, List.set_cons_succ] at b3
  have b4 := blk_set b3 4 x4
  simp only [List.setIfInBounds_toArray, List.set_cons_zero, List.set_cons_succ] at b4
  exact ⟨_, rfl, b4, (((((hd.other hB hne.symm).other hB hne.symm).other hB hne.symm).other hB hne.symm).other hB hne.symm), (gb_new (gb_new (gb_new (gb_new (gb_new hgb hr) hr) hr) hr) hr)⟩

theorem opt_eq (bs : List UInt8) (s t u : DS) (n m x : Nat) (b : Bool) (hb : b = (dOnce bs s n).1) (ht : t = (dOnce bs s n).2) (hx : x = (dBelow bs t m).1) (hu : u = (dBelow bs t m).2) : dOpt bs s n m = (if b then x else 0, if b then u else t) := by
  unfold dOpt
  rw [← hb, ← ht]
  cases b
  · rfl
  · rw [hx, hu]; rfl
theorem dPlace_eq (bs : List UInt8) (s s1 s2 s5 s6 s9 : DS) (x y : Int) (o c6 h : Nat) (hx : x = (dRange bs s (-12) 12).1) (hs1 : s1 = (dRange bs s (-12) 12).2) (hy : y = (dRange bs s1 (-12) 12).1) (hs2 : s2 = (dRange bs s1 (-12) 12).2)
    (ho : dOpt bs s2 2 60 = (o, s5)) (hc6 : c6 = (dBelow bs s5 110).1) (hs6 : s6 = (dBelow bs s5 110).2) (hh : dOpt bs s6 3 6 = (h, s9)) : dPlace bs s = (⟨x, y, (o : Int), (o : Int) + 25 + (c6 : Int), (h : Int)⟩, s9) := by
  unfold dPlace
  dsimp only
  rw [← hx, ← hs1, ← hy, ← hs2, ho]
  dsimp only
  rw [← hc6, ← hs6, hh]

set_option maxHeartbeats 3200000 in
set_option maxRecDepth 1000000 in
theorem placeD (B g : Nat) (bs : List UInt8) (s : DS) (w : World) (hB : B ≤ g) (hBs : B ≤ w.heap.size) (h : DC B g w bs s) (hl : bs.length ≤ 1048576) :
    Calls Tryz.prog 28 #[.pointer (some ⟨g, 0, none⟩)] w fun e w' => e = .returned (.agg (dPlace bs s).1.vals) ∧ DC B g w' bs (dPlace bs s).2 ∧ w.grownBy w' (some g) := by
  have hgl := h.lt
  obtain ⟨x, hx⟩ : ∃ x, x = (dRange bs s (-12) 12).1 := ⟨_, rfl⟩
  obtain ⟨s1, hs1⟩ : ∃ t, t = (dRange bs s (-12) 12).2 := ⟨_, rfl⟩
  obtain ⟨y, hy⟩ : ∃ x, x = (dRange bs s1 (-12) 12).1 := ⟨_, rfl⟩
  obtain ⟨s2, hs2⟩ : ∃ t, t = (dRange bs s1 (-12) 12).2 := ⟨_, rfl⟩
  obtain ⟨b3, hb3⟩ : ∃ x, x = (dOnce bs s2 2).1 := ⟨_, rfl⟩
  obtain ⟨s3, hs3⟩ : ∃ t, t = (dOnce bs s2 2).2 := ⟨_, rfl⟩
  obtain ⟨o4, ho4⟩ : ∃ x, x = (dBelow bs s3 60).1 := ⟨_, rfl⟩
  obtain ⟨s4, hs4⟩ : ∃ t, t = (dBelow bs s3 60).2 := ⟨_, rfl⟩
  obtain ⟨o, ho⟩ : ∃ x, x = if b3 then o4 else 0 := ⟨_, rfl⟩
  obtain ⟨s5, hs5⟩ : ∃ t, t = if b3 then s4 else s3 := ⟨_, rfl⟩
  obtain ⟨c6, hc6⟩ : ∃ x, x = (dBelow bs s5 110).1 := ⟨_, rfl⟩
  obtain ⟨s6, hs6⟩ : ∃ t, t = (dBelow bs s5 110).2 := ⟨_, rfl⟩
  obtain ⟨b7, hb7⟩ : ∃ x, x = (dOnce bs s6 3).1 := ⟨_, rfl⟩
  obtain ⟨s7, hs7⟩ : ∃ t, t = (dOnce bs s6 3).2 := ⟨_, rfl⟩
  obtain ⟨h8, hh8⟩ : ∃ x, x = (dBelow bs s7 6).1 := ⟨_, rfl⟩
  obtain ⟨s8, hs8⟩ : ∃ t, t = (dBelow bs s7 6).2 := ⟨_, rfl⟩
  have HV : Hid (dPlace bs s = (⟨x, y, (o : Int), (o : Int) + 25 + (c6 : Int), ((if b7 then h8 else 0 : Nat) : Int)⟩, if b7 then s8 else s7)) := by
    exact dPlace_eq bs s s1 s2 s5 s6 _ x y o c6 _ hx hs1 hy hs2 (by rw [ho, hs5]; exact opt_eq bs s2 s3 s4 2 60 o4 b3 hb3 hs3 ho4 hs4) hc6 hs6 (opt_eq bs s6 s7 s8 3 6 h8 b7 hb7 hs7 hh8 hs8)
  have lo4 : o4 < 60 := by rw [ho4]; exact below_lt _ _ (by omega)
  have lc6 : c6 < 110 := by rw [hc6]; exact below_lt _ _ (by omega)
  have C1 : Hid (∀ w, DC B g w bs s → Calls Tryz.prog 24 #[.pointer (some ⟨g, 0, none⟩), .int .i64 (-12), .int .i64 12] w fun e w' => e = .returned (.int .i64 x) ∧ DC B g w' bs s1 ∧ w.grownBy w' (some g)) := fun w hd => by rw [hx, hs1]; exact rangeD B g bs s (-12) 12 w hB hd hl (by omega) (by omega) (by omega)
  have C2 : Hid (∀ w, DC B g w bs s1 → Calls Tryz.prog 24 #[.pointer (some ⟨g, 0, none⟩), .int .i64 (-12), .int .i64 12] w fun e w' => e = .returned (.int .i64 y) ∧ DC B g w' bs s2 ∧ w.grownBy w' (some g)) := fun w hd => by rw [hy, hs2]; exact rangeD B g bs s1 (-12) 12 w hB hd hl (by omega) (by omega) (by omega)
  have C3 : Hid (∀ w, DC B g w bs s2 → Calls Tryz.prog 25 #[.pointer (some ⟨g, 0, none⟩), .int .i64 2] w fun e w' => e = .returned (.bool b3) ∧ DC B g w' bs s3 ∧ w.grownBy w' (some g)) := fun w hd => by rw [hb3, hs3]; exact onceD B g bs s2 2 w hB hd hl (by omega) (by omega)
  have C4 : Hid (∀ w, DC B g w bs s3 → Calls Tryz.prog 26 #[.pointer (some ⟨g, 0, none⟩), .int .i64 60] w fun e w' => e = .returned (.int .i64 (o4 : Int)) ∧ DC B g w' bs s4 ∧ w.grownBy w' (some g)) := fun w hd => by rw [ho4, hs4]; exact belowD B g bs s3 60 w hB hd hl (by omega) (by omega)
  have C6 : Hid (∀ w, DC B g w bs s5 → Calls Tryz.prog 26 #[.pointer (some ⟨g, 0, none⟩), .int .i64 110] w fun e w' => e = .returned (.int .i64 (c6 : Int)) ∧ DC B g w' bs s6 ∧ w.grownBy w' (some g)) := fun w hd => by rw [hc6, hs6]; exact belowD B g bs s5 110 w hB hd hl (by omega) (by omega)
  have C7 : Hid (∀ w, DC B g w bs s6 → Calls Tryz.prog 25 #[.pointer (some ⟨g, 0, none⟩), .int .i64 3] w fun e w' => e = .returned (.bool b7) ∧ DC B g w' bs s7 ∧ w.grownBy w' (some g)) := fun w hd => by rw [hb7, hs7]; exact onceD B g bs s6 3 w hB hd hl (by omega) (by omega)
  have C8 : Hid (∀ w, DC B g w bs s7 → Calls Tryz.prog 26 #[.pointer (some ⟨g, 0, none⟩), .int .i64 6] w fun e w' => e = .returned (.int .i64 (h8 : Int)) ∧ DC B g w' bs s8 ∧ w.grownBy w' (some g)) := fun w hd => by rw [hh8, hs8]; exact belowD B g bs s7 6 w hB hd hl (by omega) (by omega)
  have OE := Hid.mk (And.intro ho hs5)
  have lo : o < 60 := by rw [ho]; split <;> omega
  clear hx hs1 hy hs2 hb3 hs3 ho4 hs4 ho hs5 hc6 hs6 hb7 hs7 hh8 hs8
  obtain ⟨W0, hW0⟩ : ∃ W, W = w.alloc (.cells #[.int .i64 0, .int .i64 0, .int .i64 0, .int .i64 0, .int .i64 0] 43) := ⟨_, rfl⟩
  have hz0 : W0.heap.size = w.heap.size + 1 := by rw [hW0]; simp
  have A0 : Hid (Below w.heap.size w W0) := by rw [hW0]; exact below_alloc' (Below.refl _ _) _
  have Z0 : Hid (W0.heap[w.heap.size]? = some (.cells #[.int .i64 0, .int .i64 0, .int .i64 0, .int .i64 0, .int .i64 0] 43)) := by rw [hW0]; exact blk_new _ _
  obtain ⟨W1, hW1⟩ : ∃ W, W = W0.alloc (.cells #[.int .i64 0, .int .i64 0, .int .i64 0, .int .i64 0, .int .i64 0] 43) := ⟨_, rfl⟩
  have A1 : Hid (Below W0.heap.size W0 W1) := by rw [hW1]; exact below_alloc' (Below.refl _ _) _
  have Z1 := Hid.mk (blk_below Z0.out A1.out)
  have P0 : Hid (PS B g (w.heap.size + 1) 43 w W1 bs s #[.int .i64 0, .int .i64 0, .int .i64 0, .int .i64 0, .int .i64 0]) := by
    refine ⟨(h.keep hBs A0.out).keep (by omega) A1.out, ?_, gb_below (below_then A0.out A1.out)⟩
    rw [hW1, ← hz0]; exact blk_new _ _
  have hrg : w.heap.size + 1 ≠ g := by omega
  have hBr : B ≤ w.heap.size + 1 := by omega
  have hr0 : w.heap.size ≤ w.heap.size + 1 := Nat.le_succ _
  have hr1 : w.heap.size ≠ w.heap.size + 1 := by omega
  have hr2 : w.heap.size ≠ g := by omega
  clear h
  go_enter Tryz.func28, Tryz.ntmps28
  go_wp2_with fail
  rw [← hW0, ← hW1]
  clear hW0 hW1 Z0
  refine (C1.out _ P0.out.d).mono ?_
  rintro e w1 ⟨rfl, d1, g1⟩
  have P1 := Hid.mk (P0.out.call d1 g1 hrg)
  have Z2 := Hid.mk (blk_grown Z1.out g1 hr2)
  clear d1 g1 P0 Z1
  have a0 : w1.cell? ⟨w.heap.size + 1, 0, none⟩ = some (.int .i64 0) := (blk_cell P1.out.x 0).trans rfl
  have f0 : w1.frozen? ⟨w.heap.size + 1, 0, none⟩ = false := blk_unfrozen P1.out.x 0
  go_wp2_with fail
  clear a0 f0
  have P2 := Hid.mk (P1.out.set 0 (.int .i64 x) hBr hrg hr0)
  have Z3 := Hid.mk (other_set (i := 0) (v := .int .i64 x) Z2.out hr1)
  simp only [List.setIfInBounds_toArray, List.set_cons_zero, List.set_cons_succ] at P2
  clear P1 Z2
  refine (C2.out _ P2.out.d).mono ?_
  rintro e w2 ⟨rfl, d2, g2⟩
  have P3 := Hid.mk (P2.out.call d2 g2 hrg)
  have Z4 := Hid.mk (blk_grown Z3.out g2 hr2)
  clear d2 g2 P2 Z3
  have a0 : w2.cell? ⟨w.heap.size + 1, 1, none⟩ = some (.int .i64 0) := (blk_cell P3.out.x 1).trans rfl
  have f0 : w2.frozen? ⟨w.heap.size + 1, 1, none⟩ = false := blk_unfrozen P3.out.x 1
  go_wp2_with fail
  clear a0 f0
  have P4 := Hid.mk (P3.out.set 1 (.int .i64 y) hBr hrg hr0)
  have Z5 := Hid.mk (other_set (i := 1) (v := .int .i64 y) Z4.out hr1)
  simp only [List.setIfInBounds_toArray, List.set_cons_zero, List.set_cons_succ] at P4
  clear P3 Z4
  refine (C3.out _ P4.out.d).mono ?_
  rintro e w3 ⟨rfl, d3, g3⟩
  have P5 := Hid.mk (P4.out.call d3 g3 hrg)
  have Z6 := Hid.mk (blk_grown Z5.out g3 hr2)
  clear d3 g3 P4 Z5
  have k1 : IntKind.i64.wrap ((o : Int) + 25) = (o : Int) + 25 := by rw [IntKind.wrap_i64]; omega
  have k2 : IntKind.i64.wrap ((o : Int) + 25 + (c6 : Int)) = (o : Int) + 25 + (c6 : Int) := by rw [IntKind.wrap_i64]; omega
  cases b3 with
  | true =>
    obtain ⟨ho, hs5⟩ := OE.out
    simp only [if_true] at ho hs5
    subst ho hs5
    go_wp2_with fail
    refine (C4.out _ P5.out.d).mono ?_
    rintro e w4 ⟨rfl, d4, g4⟩
    have P6a := Hid.mk (P5.out.call d4 g4 hrg)
    have Z6a := Hid.mk (blk_grown Z6.out g4 hr2)
    clear d4 g4
    have a0 : w4.cell? ⟨w.heap.size + 1, 2, none⟩ = some (.int .i64 0) := (blk_cell P6a.out.x 2).trans rfl
    have f0 : w4.frozen? ⟨w.heap.size + 1, 2, none⟩ = false := blk_unfrozen P6a.out.x 2
    go_wp2_with fail
    clear a0 f0
    have P6b := Hid.mk (P6a.out.set 2 (.int .i64 (o : Int)) hBr hrg hr0)
    have Z6b := Hid.mk (other_set (i := 2) (v := .int .i64 (o : Int)) Z6a.out hr1)
    simp only [List.setIfInBounds_toArray, List.set_cons_zero, List.set_cons_succ] at P6b
    obtain ⟨W5, hW5⟩ : ∃ W5, W5 = w4.setCell ⟨w.heap.size + 1, 2, none⟩ (.int .i64 (o : Int)) := ⟨_, rfl⟩
    rw [← hW5] at P6b Z6b ⊢
    clear hW5 P6a Z6a P5 Z6
    have Pd := Hid.mk P6b.out.drew
    have q2 : W5.drew.cell? ⟨w.heap.size + 1, 2, none⟩ = some (.int .i64 ((o : Int))) := (blk_cell Pd.out.x 2).trans rfl
    go_wp2_with fail
    go_region_with (go_at_call 26; refine (C6.out _ Pd.out.d).mono ?_; rintro e w6 ⟨rfl, d6, g6⟩; have P6 := Hid.mk (Pd.out.call d6 g6 hrg); have Z7 : Hid (w6.heap[w.heap.size]? = some (.cells #[.int .i64 0, .int .i64 0, .int .i64 0, .int .i64 0, .int .i64 0] 43)) := blk_grown (w := W5.drew) Z6b.out g6 hr2; have q3 : w6.cell? ⟨w.heap.size + 1, 2, none⟩ = some (.int .i64 ((o : Int))) := (blk_cell P6.out.x 2).trans rfl; have a3 : w6.cell? ⟨w.heap.size + 1, 3, none⟩ = some (.int .i64 0) := (blk_cell P6.out.x 3).trans rfl; have f3 : w6.frozen? ⟨w.heap.size + 1, 3, none⟩ = false := blk_unfrozen P6.out.x 3; clear d6 g6)
    all_goals
      have P7 := Hid.mk (P6.out.set 3 (.int .i64 ((o : Int) + 25 + (c6 : Int))) hBr hrg hr0)
      have Z8 := Hid.mk (other_set (i := 3) (v := .int .i64 ((o : Int) + 25 + (c6 : Int))) Z7.out hr1)
      simp only [List.setIfInBounds_toArray, List.set_cons_zero, List.set_cons_succ] at P7
      obtain ⟨W7, hW7⟩ : ∃ W7, W7 = w6.setCell ⟨w.heap.size + 1, 3, none⟩ (.int .i64 ((o : Int) + 25 + (c6 : Int))) := ⟨_, rfl⟩
      rw [← hW7] at P7 Z8 ⊢
      clear hW7 P6 Z7 q3 a3 f3
      go_wp2_with fail
      refine (C7.out _ P7.out.d).mono ?_
      rintro e w7 ⟨rfl, d7, g7⟩
      have P8 := Hid.mk (P7.out.call d7 g7 hrg)
      have Z9 := Hid.mk (blk_grown Z8.out g7 hr2)
      clear d7 g7 P7 Z8
      cases b7 with
      | true =>
        go_wp2_with fail
        refine (C8.out _ P8.out.d).mono ?_
        rintro e w8 ⟨rfl, d8, g8⟩
        have P9 := Hid.mk (P8.out.call d8 g8 hrg)
        have Za := Hid.mk (blk_grown Z9.out g8 hr2)
        clear d8 g8
        have a0 : w8.cell? ⟨w.heap.size + 1, 4, none⟩ = some (.int .i64 0) := (blk_cell P9.out.x 4).trans rfl
        have f0 : w8.frozen? ⟨w.heap.size + 1, 4, none⟩ = false := blk_unfrozen P9.out.x 4
        have Pb := Hid.mk (P9.out.set 4 (.int .i64 (h8 : Int)) hBr hrg hr0)
        have Zb := Hid.mk (other_set (i := 4) (v := .int .i64 (h8 : Int)) Za.out hr1)
        simp only [List.setIfInBounds_toArray, List.set_cons_zero, List.set_cons_succ] at Pb
        have j0 := (blk_cell Pb.out.x 0).trans (show _ = some (.int .i64 x) from rfl)
        have j1 := (blk_cell Pb.out.x 1).trans (show _ = some (.int .i64 y) from rfl)
        have j2 := (blk_cell Pb.out.x 2).trans (show _ = some (.int .i64 (o : Int)) from rfl)
        have j3 := (blk_cell Pb.out.x 3).trans (show _ = some (.int .i64 ((o : Int) + 25 + (c6 : Int))) from rfl)
        have j4 := (blk_cell Pb.out.x 4).trans (show _ = some (.int .i64 (h8 : Int)) from rfl)
        have u0 := (blk_cell Zb.out 0).trans (show _ = some (.int .i64 0) from rfl)
        have u1 := (blk_cell Zb.out 1).trans (show _ = some (.int .i64 0) from rfl)
        have u2 := (blk_cell Zb.out 2).trans (show _ = some (.int .i64 0) from rfl)
        have u3 := (blk_cell Zb.out 3).trans (show _ = some (.int .i64 0) from rfl)
        have u4 := (blk_cell Zb.out 4).trans (show _ = some (.int .i64 0) from rfl)
        have y0 := blk_unfrozen Zb.out 0
        have y1 := blk_unfrozen Zb.out 1
        have y2 := blk_unfrozen Zb.out 2
        have y3 := blk_unfrozen Zb.out 3
        have y4 := blk_unfrozen Zb.out 4
        go_wp2
        obtain ⟨F, hF, xF, dF, gF⟩ := finP Zb.out Pb.out.d Pb.out.gb hBs hr2 (Nat.le_refl _) (.int .i64 x) (.int .i64 y) (.int .i64 (o : Int)) (.int .i64 ((o : Int) + 25 + (c6 : Int))) (.int .i64 (h8 : Int))
        rw [← hF]
        have r0 := (blk_cell xF 0).trans (show _ = some (.int .i64 x) from rfl)
        have r1 := (blk_cell xF 1).trans (show _ = some (.int .i64 y) from rfl)
        have r2 := (blk_cell xF 2).trans (show _ = some (.int .i64 (o : Int)) from rfl)
        have r3 := (blk_cell xF 3).trans (show _ = some (.int .i64 ((o : Int) + 25 + (c6 : Int))) from rfl)
        have r4 := (blk_cell xF 4).trans (show _ = some (.int .i64 (h8 : Int)) from rfl)
        have DF := Hid.mk dF
        have GF := Hid.mk gF
        clear hF xF dF gF j0 j1 j2 j3 j4 u0 u1 u2 u3 u4 y0 y1 y2 y3 y4
        refine bodyPost_ret (by simp [results, Tryz.results28, go_sem, r0, r1, r2, r3, r4]; try rfl) rfl ?_
        rw [HV.out]
        exact ⟨rfl, DF.out, GF.out⟩
      | false =>
        have j0 := (blk_cell P8.out.x 0).trans (show _ = some (.int .i64 x) from rfl)
        have j1 := (blk_cell P8.out.x 1).trans (show _ = some (.int .i64 y) from rfl)
        have j2 := (blk_cell P8.out.x 2).trans (show _ = some (.int .i64 (o : Int)) from rfl)
        have j3 := (blk_cell P8.out.x 3).trans (show _ = some (.int .i64 ((o : Int) + 25 + (c6 : Int))) from rfl)
        have j4 := (blk_cell P8.out.x 4).trans (show _ = some (.int .i64 0) from rfl)
        have u0 := (blk_cell Z9.out 0).trans (show _ = some (.int .i64 0) from rfl)
        have u1 := (blk_cell Z9.out 1).trans (show _ = some (.int .i64 0) from rfl)
        have u2 := (blk_cell Z9.out 2).trans (show _ = some (.int .i64 0) from rfl)
        have u3 := (blk_cell Z9.out 3).trans (show _ = some (.int .i64 0) from rfl)
        have u4 := (blk_cell Z9.out 4).trans (show _ = some (.int .i64 0) from rfl)
        have y0 := blk_unfrozen Z9.out 0
        have y1 := blk_unfrozen Z9.out 1
        have y2 := blk_unfrozen Z9.out 2
        have y3 := blk_unfrozen Z9.out 3
        have y4 := blk_unfrozen Z9.out 4
        go_wp2
        obtain ⟨F, hF, xF, dF, gF⟩ := finP Z9.out P8.out.d P8.out.gb hBs hr2 (Nat.le_refl _) (.int .i64 x) (.int .i64 y) (.int .i64 (o : Int)) (.int .i64 ((o : Int) + 25 + (c6 : Int))) (.int .i64 0)
        rw [← hF]
        have r0 := (blk_cell xF 0).trans (show _ = some (.int .i64 x) from rfl)
        have r1 := (blk_cell xF 1).trans (show _ = some (.int .i64 y) from rfl)
        have r2 := (blk_cell xF 2).trans (show _ = some (.int .i64 (o : Int)) from rfl)
        have r3 := (blk_cell xF 3).trans (show _ = some (.int .i64 ((o : Int) + 25 + (c6 : Int))) from rfl)
        have r4 := (blk_cell xF 4).trans (show _ = some (.int .i64 0) from rfl)
        have DF := Hid.mk dF
        have GF := Hid.mk gF
        clear hF xF dF gF j0 j1 j2 j3 j4 u0 u1 u2 u3 u4 y0 y1 y2 y3 y4
        refine bodyPost_ret (by simp [results, Tryz.results28, go_sem, r0, r1, r2, r3, r4]; try rfl) rfl ?_
        rw [HV.out]
        exact ⟨rfl, DF.out, GF.out⟩
  | false =>
    obtain ⟨ho, hs5⟩ := OE.out
    simp only [Bool.false_eq_true, if_false] at ho hs5
    have P6b : Hid (PS B g (w.heap.size + 1) 43 w w3 bs s5 #[.int .i64 x, .int .i64 y, .int .i64 (o : Int), .int .i64 0, .int .i64 0]) := by
      unfold Hid; rw [ho, hs5]; exact P5.out
    have Z6b := Z6
    clear ho hs5 P5 Z6
    have Pd := Hid.mk P6b.out.drew
    have q2 : w3.drew.cell? ⟨w.heap.size + 1, 2, none⟩ = some (.int .i64 ((o : Int))) := (blk_cell Pd.out.x 2).trans rfl
    go_wp2_with fail
    go_region_with (go_at_call 26; refine (C6.out _ Pd.out.d).mono ?_; rintro e w6 ⟨rfl, d6, g6⟩; have P6 := Hid.mk (Pd.out.call d6 g6 hrg); have Z7 : Hid (w6.heap[w.heap.size]? = some (.cells #[.int .i64 0, .int .i64 0, .int .i64 0, .int .i64 0, .int .i64 0] 43)) := blk_grown (w := w3.drew) Z6b.out g6 hr2; have q3 : w6.cell? ⟨w.heap.size + 1, 2, none⟩ = some (.int .i64 ((o : Int))) := (blk_cell P6.out.x 2).trans rfl; have a3 : w6.cell? ⟨w.heap.size + 1, 3, none⟩ = some (.int .i64 0) := (blk_cell P6.out.x 3).trans rfl; have f3 : w6.frozen? ⟨w.heap.size + 1, 3, none⟩ = false := blk_unfrozen P6.out.x 3; clear d6 g6)
    all_goals
      have P7 := Hid.mk (P6.out.set 3 (.int .i64 ((o : Int) + 25 + (c6 : Int))) hBr hrg hr0)
      have Z8 := Hid.mk (other_set (i := 3) (v := .int .i64 ((o : Int) + 25 + (c6 : Int))) Z7.out hr1)
      simp only [List.setIfInBounds_toArray, List.set_cons_zero, List.set_cons_succ] at P7
      obtain ⟨W7, hW7⟩ : ∃ W7, W7 = w6.setCell ⟨w.heap.size + 1, 3, none⟩ (.int .i64 ((o : Int) + 25 + (c6 : Int))) := ⟨_, rfl⟩
      rw [← hW7] at P7 Z8 ⊢
      clear hW7 P6 Z7 q3 a3 f3
      go_wp2_with fail
      refine (C7.out _ P7.out.d).mono ?_
      rintro e w7 ⟨rfl, d7, g7⟩
      have P8 := Hid.mk (P7.out.call d7 g7 hrg)
      have Z9 := Hid.mk (blk_grown Z8.out g7 hr2)
      clear d7 g7 P7 Z8
      cases b7 with
      | true =>
        go_wp2_with fail
        refine (C8.out _ P8.out.d).mono ?_
        rintro e w8 ⟨rfl, d8, g8⟩
        have P9 := Hid.mk (P8.out.call d8 g8 hrg)
        have Za := Hid.mk (blk_grown Z9.out g8 hr2)
        clear d8 g8
        have a0 : w8.cell? ⟨w.heap.size + 1, 4, none⟩ = some (.int .i64 0) := (blk_cell P9.out.x 4).trans rfl
        have f0 : w8.frozen? ⟨w.heap.size + 1, 4, none⟩ = false := blk_unfrozen P9.out.x 4
        have Pb := Hid.mk (P9.out.set 4 (.int .i64 (h8 : Int)) hBr hrg hr0)
        have Zb := Hid.mk (other_set (i := 4) (v := .int .i64 (h8 : Int)) Za.out hr1)
        simp only [List.setIfInBounds_toArray, List.set_cons_zero, List.set_cons_succ] at Pb
        have j0 := (blk_cell Pb.out.x 0).trans (show _ = some (.int .i64 x) from rfl)
        have j1 := (blk_cell Pb.out.x 1).trans (show _ = some (.int .i64 y) from rfl)
        have j2 := (blk_cell Pb.out.x 2).trans (show _ = some (.int .i64 (o : Int)) from rfl)
        have j3 := (blk_cell Pb.out.x 3).trans (show _ = some (.int .i64 ((o : Int) + 25 + (c6 : Int))) from rfl)
        have j4 := (blk_cell Pb.out.x 4).trans (show _ = some (.int .i64 (h8 : Int)) from rfl)
        have u0 := (blk_cell Zb.out 0).trans (show _ = some (.int .i64 0) from rfl)
        have u1 := (blk_cell Zb.out 1).trans (show _ = some (.int .i64 0) from rfl)
        have u2 := (blk_cell Zb.out 2).trans (show _ = some (.int .i64 0) from rfl)
        have u3 := (blk_cell Zb.out 3).trans (show _ = some (.int .i64 0) from rfl)
        have u4 := (blk_cell Zb.out 4).trans (show _ = some (.int .i64 0) from rfl)
        have y0 := blk_unfrozen Zb.out 0
        have y1 := blk_unfrozen Zb.out 1
        have y2 := blk_unfrozen Zb.out 2
        have y3 := blk_unfrozen Zb.out 3
        have y4 := blk_unfrozen Zb.out 4
        go_wp2
        obtain ⟨F, hF, xF, dF, gF⟩ := finP Zb.out Pb.out.d Pb.out.gb hBs hr2 (Nat.le_refl _) (.int .i64 x) (.int .i64 y) (.int .i64 (o : Int)) (.int .i64 ((o : Int) + 25 + (c6 : Int))) (.int .i64 (h8 : Int))
        rw [← hF]
        have r0 := (blk_cell xF 0).trans (show _ = some (.int .i64 x) from rfl)
        have r1 := (blk_cell xF 1).trans (show _ = some (.int .i64 y) from rfl)
        have r2 := (blk_cell xF 2).trans (show _ = some (.int .i64 (o : Int)) from rfl)
        have r3 := (blk_cell xF 3).trans (show _ = some (.int .i64 ((o : Int) + 25 + (c6 : Int))) from rfl)
        have r4 := (blk_cell xF 4).trans (show _ = some (.int .i64 (h8 : Int)) from rfl)
        have DF := Hid.mk dF
        have GF := Hid.mk gF
        clear hF xF dF gF j0 j1 j2 j3 j4 u0 u1 u2 u3 u4 y0 y1 y2 y3 y4
        refine bodyPost_ret (by simp [results, Tryz.results28, go_sem, r0, r1, r2, r3, r4]; try rfl) rfl ?_
        rw [HV.out]
        exact ⟨rfl, DF.out, GF.out⟩
      | false =>
        have j0 := (blk_cell P8.out.x 0).trans (show _ = some (.int .i64 x) from rfl)
        have j1 := (blk_cell P8.out.x 1).trans (show _ = some (.int .i64 y) from rfl)
        have j2 := (blk_cell P8.out.x 2).trans (show _ = some (.int .i64 (o : Int)) from rfl)
        have j3 := (blk_cell P8.out.x 3).trans (show _ = some (.int .i64 ((o : Int) + 25 + (c6 : Int))) from rfl)
        have j4 := (blk_cell P8.out.x 4).trans (show _ = some (.int .i64 0) from rfl)
        have u0 := (blk_cell Z9.out 0).trans (show _ = some (.int .i64 0) from rfl)
        have u1 := (blk_cell Z9.out 1).trans (show _ = some (.int .i64 0) from rfl)
        have u2 := (blk_cell Z9.out 2).trans (show _ = some (.int .i64 0) from rfl)
        have u3 := (blk_cell Z9.out 3).trans (show _ = some (.int .i64 0) from rfl)
        have u4 := (blk_cell Z9.out 4).trans (show _ = some (.int .i64 0) from rfl)
        have y0 := blk_unfrozen Z9.out 0
        have y1 := blk_unfrozen Z9.out 1
        have y2 := blk_unfrozen Z9.out 2
        have y3 := blk_unfrozen Z9.out 3
        have y4 := blk_unfrozen Z9.out 4
        go_wp2
        obtain ⟨F, hF, xF, dF, gF⟩ := finP Z9.out P8.out.d P8.out.gb hBs hr2 (Nat.le_refl _) (.int .i64 x) (.int .i64 y) (.int .i64 (o : Int)) (.int .i64 ((o : Int) + 25 + (c6 : Int))) (.int .i64 0)
        rw [← hF]
        have r0 := (blk_cell xF 0).trans (show _ = some (.int .i64 x) from rfl)
        have r1 := (blk_cell xF 1).trans (show _ = some (.int .i64 y) from rfl)
        have r2 := (blk_cell xF 2).trans (show _ = some (.int .i64 (o : Int)) from rfl)
        have r3 := (blk_cell xF 3).trans (show _ = some (.int .i64 ((o : Int) + 25 + (c6 : Int))) from rfl)
        have r4 := (blk_cell xF 4).trans (show _ = some (.int .i64 0) from rfl)
        have DF := Hid.mk dF
        have GF := Hid.mk gF
        clear hF xF dF gF j0 j1 j2 j3 j4 u0 u1 u2 u3 u4 y0 y1 y2 y3 y4
        refine bodyPost_ret (by simp [results, Tryz.results28, go_sem, r0, r1, r2, r3, r4]; try rfl) rfl ?_
        rw [HV.out]
        exact ⟨rfl, DF.out, GF.out⟩
end Go.Proofs.YtefkdpppcjlflaaGreatDoor.Draw
