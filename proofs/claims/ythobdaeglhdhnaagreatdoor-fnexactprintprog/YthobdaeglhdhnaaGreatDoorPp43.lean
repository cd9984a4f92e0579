import Derived.Test.YthobdaeglhdhnaaGreatDoorPp42
import Derived.Deep.CutRange
import Derived.Deep.Cut
import Derived.Deep.DeepCutAuto
namespace Go.Proofs.YthobdaeglhdhnaaGreatDoor.LawP
open Go Go.RowKit Go.Proofs.YthobdaeglhdhnaaGreatDoor.Mem Go.Proofs.YthobdaeglhdhnaaGreatDoor.Syn Go.Proofs.YthobdaeglhdhnaaGreatDoor.OpenP
set_option linter.unusedVariables false
set_option linter.unusedSimpArgs false
attribute [local go_sem ↓] Go.wp_at_zero Go.wp_at_succ

set_option maxHeartbeats 400000 in
theorem toOp (o : Po) (w : World) : Calls Tryz.prog 59 #[.agg #[.int .i64 o.k, .int .i64 o.v, .string ⟨o.n.toArray⟩]] w fun r w' => r = .returned (.agg #[.int .i64 o.k, .int .i64 o.v, .string ⟨o.n.toArray⟩]) ∧ Below w.heap.size w w' := by
  go_enter Tryz.func59, Tryz.ntmps59
  go_wp2
  go_returns
  exact ⟨rfl, by go_grown⟩
theorem infoOp : (Tryz.prog.info? 91).map (fun i => (i.zero, i.size, i.bytes)) = some (some (.agg #[.int .i64 0, .int .i64 0, .string ⟨#[]⟩]), 3, 32) := by kernel_rfl

set_option maxHeartbeats 800000 in
set_option maxRecDepth 100000 in
theorem toOpS (a : Option Addr) (n cap : Nat) (V : Nat → Po) (w : World) (hs : SliceAt w a n 3 (fun i => (V i).cells)) (hn : n ≤ 1048576) :
    Calls Tryz.prog 44 #[.slice a n cap] w fun e w' => e = .returned (.slice (some ⟨w.heap.size, 0, none⟩) n n) ∧ Below w.heap.size w w' ∧ w'.there w.heap.size 0 (n * 3) ∧ (∀ i, i < n → w'.rangeAt w.heap.size (0 + i * 3) (V i).cells) ∧ w.heap.size < w'.heap.size := by
  have hmk := run_make_n (P := Tryz.prog) 40 91 _ 3 32 Tryz.underlying40 infoOp n hn (by omega)
  go_enter Tryz.func44, Tryz.ntmps44
  go_wp2
  clear hmk
  go_loopw [4] (fun i wr => ∃ k : Nat, k ≤ n ∧ i = .int .i64 k ∧ Hid (Below w.heap.size w wr) ∧ Hid (wr.there w.heap.size 0 (n * 3)) ∧ Hid (∀ i, i < k → wr.rangeAt w.heap.size (0 + i * 3) (V i).cells) ∧ Hid (w.heap.size < wr.heap.size)) (fun i _ => n - (intOf i).toNat)
  case atStart => exact ⟨0, Nat.zero_le _, rfl, (Below.refl _ _).alloc (Nat.le_refl _) _, there_make _ _ _ _, fun i hi => absurd hi (Nat.not_lt_zero _), by simp [Hid]⟩
  case round =>
    obtain ⟨k, hk, rfl, hb, ht, hf, hsz⟩ := hrel
    by_cases hlt : k < n
    · rcases hs with hs | ⟨b, off, rfl, hs⟩
      · omega
      obtain ⟨c0, c1, c2⟩ := Po.at (rangeAt_below (hs k hlt) hb.out)
      clear hs
      go_wp2_with fail
      refine (toOp (V k) _).mono ?_
      rintro e w1 ⟨rfl, hb1⟩
      clear c0 c1 c2
      have hlt0 : w.heap.size < wr.heap.size := hsz.out
      have hsz1 : Hid (w.heap.size < w1.heap.size) := Nat.lt_of_lt_of_le hsz.out hb1.size
      have ht1 : Hid (w1.there w.heap.size 0 (n * 3)) := there_below ht.out hlt0 hb1
      have hf1 : Hid (∀ i, i < k → w1.rangeAt w.heap.size (0 + i * 3) (V i).cells) := fun i hi => rangeAt_below (hf.out i hi) hb1
      have hb2 : Hid (Below w.heap.size w w1) := hb.out.trans (hb1.mono (by omega))
      obtain ⟨v0, v1, v2, d0, d1, d2, f0, f1, f2⟩ := there3 (there_part (o' := k * 3) (n' := 3) ht1.out (by omega) (by omega))
      clear hb1 hlt0 ht hf hb hsz
      go_wp2
      refine ⟨⟨k + 1, by omega, by go_num, ?_, ?_, ?_, ?_⟩, by simp [intOf]; omega⟩
      · exact Below.setCells' w.heap.size (Nat.le_refl _) (V k).cells (k * 3) w1 hb2.out
      · exact World.there_setCells (w := w1) ht1.out w.heap.size (k * 3) (V k).cells
      · exact fill_step (w := w1) (C := fun i => (V i).cells) (k := 3) (fun i _ => Po.len _) (there_part ht1.out (by omega) (by omega)) hf1.out
      · show w.heap.size < (w1.setCells w.heap.size (k * 3) (V k).cells).heap.size
        rw [size_setCells]; exact hsz1.out
    · go_wp2
      go_ret
      have hkn : k = n := by omega
      subst hkn
      exact ⟨rfl, hb.out, ht.out, hf.out, hsz.out⟩

/-- A list of Ops in a block of its own. -/
structure OpCp (w : World) (B : Nat) (a : Option Addr) (n : Nat) (E : Nat → Po) : Prop where
  h : ∃ g, a = some ⟨g, 0, none⟩ ∧ B ≤ g ∧ g < w.heap.size ∧ w.there g 0 (n * 3) ∧ ∀ j, j < n → w.rangeAt g (0 + j * 3) (E j).cells
theorem OpCp.below {w w' : World} {B n : Nat} {a : Option Addr} {E : Nat → Po} (h : OpCp w B a n E) (hb : Below w.heap.size w w') : OpCp w' B a n E := by
  obtain ⟨g, ha, h1, h2, h3, h4⟩ := h.h
  exact ⟨g, ha, h1, Nat.lt_of_lt_of_le h2 hb.size, there_below h3 h2 hb, fun j hj => rangeAt_below (h4 j hj) hb⟩
theorem OpCp.low {w : World} {B B' n : Nat} {a : Option Addr} {E : Nat → Po} (h : OpCp w B a n E) (hB : B' ≤ B) : OpCp w B' a n E := by
  obtain ⟨g, ha, h1, h2⟩ := h.h
  exact ⟨g, ha, by omega, h2⟩
theorem OpCp.at {w : World} {B n : Nat} {a : Option Addr} {E : Nat → Po} (h : OpCp w B a n E) : SliceAt w a n 3 (fun j => (E j).cells) := by
  obtain ⟨g, ha, h1, h2, h3, h4⟩ := h.h
  exact Or.inr ⟨g, 0, ha, h4⟩
theorem OpCp.set {w : World} {B n : Nat} {a : Option Addr} {E : Nat → Po} (h : OpCp w B a n E) (p : Addr) (hp : p.block < B) (v : Value) : OpCp (w.setCell p v) B a n E := by
  obtain ⟨g, ha, h1, h2, h3, h4⟩ := h.h
  exact ⟨g, ha, h1, by rw [size_set]; exact h2, there_set h3 p (by omega) v, fun j hj => rangeAt_set_other (h4 j hj) (by omega) v⟩
theorem blk7 {w : World} {g : Nat} {x0 x1 x2 x3 x4 x5 x6 : Value} {t : TypeId} (h : w.heap[g]? = some (.cells #[x0, x1, x2, x3, x4, x5, x6] t)) : w.cell? ⟨g, 0, none⟩ = some x0 ∧ w.cell? ⟨g, 1, none⟩ = some x1 ∧ w.cell? ⟨g, 2, none⟩ = some x2 ∧ w.cell? ⟨g, 3, none⟩ = some x3 ∧ w.cell? ⟨g, 4, none⟩ = some x4 ∧ w.cell? ⟨g, 5, none⟩ = some x5 ∧ w.cell? ⟨g, 6, none⟩ = some x6 := by
  have h0 := blk_cell h 0
  have h1 := blk_cell h 1
  have h2 := blk_cell h 2
  have h3 := blk_cell h 3
  have h4 := blk_cell h 4
  have h5 := blk_cell h 5
  have h6 := blk_cell h 6
  simp only [List.getElem?_toArray, List.getElem?_cons_zero, List.getElem?_cons_succ] at h0 h1 h2 h3 h4 h5 h6
  exact ⟨h0, h1, h2, h3, h4, h5, h6⟩

set_option maxHeartbeats 3200000 in
set_option maxRecDepth 100000 in
theorem toItem (i : It) (l : Lo) (w : World) (hE : SliceAt w l.aE i.nE 3 (fun j => (i.E j).cells)) (hF : SliceAt w l.aF i.nF 3 (fun j => (i.F j).cells)) (hnE : i.nE ≤ 1048576) (hnF : i.nF ≤ 1048576) :
    Calls Tryz.prog 26 #[.agg #[.int .i64 i.k, .string ⟨i.n.toArray⟩, .slice l.aE i.nE l.cE, .slice l.aF i.nF l.cF, .int .i64 i.K, .int .i64 i.lo, .int .i64 i.hi]] w fun e w' => ∃ aE aF : Option Addr, e = .returned (.agg #[.int .i64 i.k, .string ⟨i.n.toArray⟩, .slice aE i.nE i.nE, .slice aF i.nF i.nF, .int .i64 i.K, .int .i64 i.lo, .int .i64 i.hi]) ∧ Below w.heap.size w w' ∧ OpCp w' w.heap.size aE i.nE i.E ∧ OpCp w' w.heap.size aF i.nF i.F := by
  have HE := Hid.mk hE
  have HF := Hid.mk hF
  clear hE hF
  go_enter Tryz.func26, Tryz.ntmps26
  go_upto_region 4 with fail
  obtain ⟨W, hW⟩ : ∃ W : World, W = ((w.alloc (.cells #[.int .i64 i.k, .string ⟨i.n.toArray⟩, .slice l.aE i.nE l.cE, .slice l.aF i.nF l.cF, .int .i64 i.K, .int .i64 i.lo, .int .i64 i.hi] 50)).alloc (.cells #[.int .i64 0, .string ⟨#[]⟩, .slice none 0 0, .slice none 0 0, .int .i64 0, .int .i64 0, .int .i64 0] 42)).alloc (.cells #[.int .i64 i.k, .string ⟨i.n.toArray⟩, .slice none 0 0, .slice none 0 0, .int .i64 0, .int .i64 0, .int .i64 0] 42) := ⟨_, rfl⟩
  rw [← hW]
  have XW := Hid.mk (show W.heap[w.heap.size]? = some (.cells #[.int .i64 i.k, .string ⟨i.n.toArray⟩, .slice l.aE i.nE l.cE, .slice l.aF i.nF l.cF, .int .i64 i.K, .int .i64 i.lo, .int .i64 i.hi] 50) by rw [hW]; exact blk_alloc (blk_alloc (blk_new w _) _) _)
  have RW := Hid.mk (show W.heap[w.heap.size + 1]? = some (.cells #[.int .i64 0, .string ⟨#[]⟩, .slice none 0 0, .slice none 0 0, .int .i64 0, .int .i64 0, .int .i64 0] 42) by rw [hW]; exact blk_alloc (blk_new1 w _ _) _)
  have OW := Hid.mk (show W.heap[w.heap.size + 1 + 1]? = some (.cells #[.int .i64 i.k, .string ⟨i.n.toArray⟩, .slice none 0 0, .slice none 0 0, .int .i64 0, .int .i64 0, .int .i64 0] 42) by rw [hW]; exact blk_new2 w _ _ _)
  have BW : Hid (Below w.heap.size w W) := by unfold Hid; rw [hW]; go_grown
  clear hW
  have zO := blk_lt OW.out
  obtain ⟨-, -, x2, -, -, -, -⟩ := blk7 XW.out
  go_wp2_with fail
  clear x2
  refine (toOpS l.aE i.nE l.cE i.E _ (HE.out.below BW.out) hnE).mono ?_
  rintro e w1 ⟨rfl, hb1, t1, r1, z1⟩
  have E1 : Hid (OpCp w1 W.heap.size (some ⟨W.heap.size, 0, none⟩) i.nE i.E) := ⟨W.heap.size, rfl, Nat.le_refl _, z1, t1, r1⟩
  obtain ⟨a1, ha1⟩ : ∃ a1, a1 = (some ⟨W.heap.size, 0, none⟩ : Option Addr) := ⟨_, rfl⟩
  rw [← ha1] at E1
  rw [← ha1]
  clear ha1
  have B1 := Hid.mk (below_then BW.out hb1)
  have X1 := Hid.mk (blk_below XW.out hb1)
  have R1 := Hid.mk (blk_below RW.out hb1)
  have O1 := Hid.mk (blk_below OW.out hb1)
  clear hb1 t1 r1 z1 XW RW OW BW
  have o2 := blk_cell O1.out 2
  have f2 := blk_unfrozen O1.out 2
  simp only [List.getElem?_toArray, List.getElem?_cons_zero, List.getElem?_cons_succ] at o2
  go_upto_region 5 with fail
  clear o2 f2
  obtain ⟨V, hV⟩ : ∃ V : World, V = w1.setCell ⟨w.heap.size + 1 + 1, 2, none⟩ (.slice a1 i.nE i.nE) := ⟨_, rfl⟩
  rw [← hV]
  have XV := Hid.mk (show V.heap[w.heap.size]? = some (.cells #[.int .i64 i.k, .string ⟨i.n.toArray⟩, .slice l.aE i.nE l.cE, .slice l.aF i.nF l.cF, .int .i64 i.K, .int .i64 i.lo, .int .i64 i.hi] 50) by rw [hV]; exact blk_set_other X1.out (by show w.heap.size ≠ w.heap.size + 1 + 1; omega) _)
  have RV := Hid.mk (show V.heap[w.heap.size + 1]? = some (.cells #[.int .i64 0, .string ⟨#[]⟩, .slice none 0 0, .slice none 0 0, .int .i64 0, .int .i64 0, .int .i64 0] 42) by rw [hV]; exact blk_set_other R1.out (by show w.heap.size + 1 ≠ w.heap.size + 1 + 1; omega) _)
  have OV := Hid.mk (show V.heap[w.heap.size + 1 + 1]? = some (.cells #[.int .i64 i.k, .string ⟨i.n.toArray⟩, .slice a1 i.nE i.nE, .slice none 0 0, .int .i64 0, .int .i64 0, .int .i64 0] 42) by rw [hV]; have := blk_set O1.out 2 (.slice a1 i.nE i.nE); simpa using this)
  have BV : Hid (Below w.heap.size w V) := by unfold Hid; rw [hV]; exact below_set B1.out _ (by show w.heap.size ≤ w.heap.size + 1 + 1; omega) _
  have EV : Hid (OpCp V W.heap.size a1 i.nE i.E) := by unfold Hid; rw [hV]; exact E1.out.set _ zO _
  clear hV X1 R1 O1 B1 E1
  obtain ⟨-, -, -, x3, -, -, -⟩ := blk7 XV.out
  go_wp2_with fail
  clear x3
  have zV := BV.out.size
  have zOV := blk_lt OV.out
  refine (toOpS l.aF i.nF l.cF i.F _ (HF.out.below BV.out) hnF).mono ?_
  rintro e w2 ⟨rfl, hb2, t2, r2, z2⟩
  have F2 : Hid (OpCp w2 V.heap.size (some ⟨V.heap.size, 0, none⟩) i.nF i.F) := ⟨V.heap.size, rfl, Nat.le_refl _, z2, t2, r2⟩
  obtain ⟨a2, ha2⟩ : ∃ a2, a2 = (some ⟨V.heap.size, 0, none⟩ : Option Addr) := ⟨_, rfl⟩
  rw [← ha2] at F2
  rw [← ha2]
  clear ha2
  have B2 := Hid.mk (below_then BV.out hb2)
  have X2 := Hid.mk (blk_below XV.out hb2)
  have R2 := Hid.mk (blk_below RV.out hb2)
  have O2 := Hid.mk (blk_below OV.out hb2)
  have E2 := Hid.mk (EV.out.below hb2)
  clear hb2 t2 r2 z2 XV RV OV BV EV
  have o3 := blk_cell O2.out 3
  have f3 := blk_unfrozen O2.out 3
  simp only [List.getElem?_toArray, List.getElem?_cons_zero, List.getElem?_cons_succ] at o3
  go_upto_region 6 with fail
  clear o3 f3
  obtain ⟨U, hU⟩ : ∃ U : World, U = w2.setCell ⟨w.heap.size + 1 + 1, 3, none⟩ (.slice a2 i.nF i.nF) := ⟨_, rfl⟩
  rw [← hU]
  have XU := Hid.mk (show U.heap[w.heap.size]? = some (.cells #[.int .i64 i.k, .string ⟨i.n.toArray⟩, .slice l.aE i.nE l.cE, .slice l.aF i.nF l.cF, .int .i64 i.K, .int .i64 i.lo, .int .i64 i.hi] 50) by rw [hU]; exact blk_set_other X2.out (by show w.heap.size ≠ w.heap.size + 1 + 1; omega) _)
  have RU := Hid.mk (show U.heap[w.heap.size + 1]? = some (.cells #[.int .i64 0, .string ⟨#[]⟩, .slice none 0 0, .slice none 0 0, .int .i64 0, .int .i64 0, .int .i64 0] 42) by rw [hU]; exact blk_set_other R2.out (by show w.heap.size + 1 ≠ w.heap.size + 1 + 1; omega) _)
  have OU := Hid.mk (show U.heap[w.heap.size + 1 + 1]? = some (.cells #[.int .i64 i.k, .string ⟨i.n.toArray⟩, .slice a1 i.nE i.nE, .slice a2 i.nF i.nF, .int .i64 0, .int .i64 0, .int .i64 0] 42) by rw [hU]; have := blk_set O2.out 3 (.slice a2 i.nF i.nF); simpa using this)
  have BU : Hid (Below w.heap.size w U) := by unfold Hid; rw [hU]; exact below_set B2.out _ (by show w.heap.size ≤ w.heap.size + 1 + 1; omega) _
  have EU : Hid (OpCp U W.heap.size a1 i.nE i.E) := by unfold Hid; rw [hU]; exact E2.out.set _ zO _
  have FU : Hid (OpCp U V.heap.size a2 i.nF i.F) := by unfold Hid; rw [hU]; exact F2.out.set _ zOV _
  clear hU X2 R2 O2 B2 E2 F2
  obtain ⟨-, -, -, -, x4, x5, x6⟩ := blk7 XU.out
  obtain ⟨o0, o1, o2, o3, o4, o5, o6⟩ := blk7 OU.out
  have f4 := blk_unfrozen OU.out 4
  have f5 := blk_unfrozen OU.out 5
  have f6 := blk_unfrozen OU.out 6
  go_upto_region 9 with fail
  clear x4 x5 x6 o0 o1 o2 o3 o4 o5 o6 f4 f5 f6
  obtain ⟨T, hT⟩ : ∃ T : World, T = ((U.setCell ⟨w.heap.size + 1 + 1, 4, none⟩ (.int .i64 i.K)).setCell ⟨w.heap.size + 1 + 1, 5, none⟩ (.int .i64 i.lo)).setCell ⟨w.heap.size + 1 + 1, 6, none⟩ (.int .i64 i.hi) := ⟨_, rfl⟩
  rw [← hT]
  have RT := Hid.mk (show T.heap[w.heap.size + 1]? = some (.cells #[.int .i64 0, .string ⟨#[]⟩, .slice none 0 0, .slice none 0 0, .int .i64 0, .int .i64 0, .int .i64 0] 42) by rw [hT]; exact blk_set_other (blk_set_other (blk_set_other RU.out (by show w.heap.size + 1 ≠ w.heap.size + 1 + 1; omega) _) (by show w.heap.size + 1 ≠ w.heap.size + 1 + 1; omega) _) (by show w.heap.size + 1 ≠ w.heap.size + 1 + 1; omega) _)
  have OT := Hid.mk (show T.heap[w.heap.size + 1 + 1]? = some (.cells #[.int .i64 i.k, .string ⟨i.n.toArray⟩, .slice a1 i.nE i.nE, .slice a2 i.nF i.nF, .int .i64 i.K, .int .i64 i.lo, .int .i64 i.hi] 42) by rw [hT]; have := blk_set (blk_set (blk_set OU.out 4 (.int .i64 i.K)) 5 (.int .i64 i.lo)) 6 (.int .i64 i.hi); simpa using this)
  have BT : Hid (Below w.heap.size w T) := by unfold Hid; rw [hT]; exact below_set (below_set (below_set BU.out _ (by show w.heap.size ≤ w.heap.size + 1 + 1; omega) _) _ (by show w.heap.size ≤ w.heap.size + 1 + 1; omega) _) _ (by show w.heap.size ≤ w.heap.size + 1 + 1; omega) _
  have ET : Hid (OpCp T W.heap.size a1 i.nE i.E) := by unfold Hid; rw [hT]; exact ((EU.out.set _ zO _).set _ zO _).set _ zO _
  have FT : Hid (OpCp T V.heap.size a2 i.nF i.F) := by unfold Hid; rw [hT]; exact ((FU.out.set _ zOV _).set _ zOV _).set _ zOV _
  clear hT XU RU OU BU EU FU
  obtain ⟨o0, o1, o2, o3, o4, o5, o6⟩ := blk7 OT.out
  obtain ⟨r0, r1, r2, r3, r4, r5, r6⟩ := blk7 RT.out
  have f0 := blk_unfrozen RT.out 0
  have f1 := blk_unfrozen RT.out 1
  have f2 := blk_unfrozen RT.out 2
  have f3 := blk_unfrozen RT.out 3
  have f4 := blk_unfrozen RT.out 4
  have f5 := blk_unfrozen RT.out 5
  have f6 := blk_unfrozen RT.out 6
  go_wp2
  obtain ⟨Z, hZ⟩ : ∃ Z : World, Z = T.setCells (w.heap.size + 1) 0 [.int .i64 i.k, .string ⟨i.n.toArray⟩, .slice a1 i.nE i.nE, .slice a2 i.nF i.nF, .int .i64 i.K, .int .i64 i.lo, .int .i64 i.hi] := ⟨_, rfl⟩
  have hZ' : Z = ((((((T.setCell ⟨w.heap.size + 1, 0, none⟩ (.int .i64 i.k)).setCell ⟨w.heap.size + 1, 1, none⟩ (.string ⟨i.n.toArray⟩)).setCell ⟨w.heap.size + 1, 2, none⟩ (.slice a1 i.nE i.nE)).setCell ⟨w.heap.size + 1, 3, none⟩ (.slice a2 i.nF i.nF)).setCell ⟨w.heap.size + 1, 4, none⟩ (.int .i64 i.K)).setCell ⟨w.heap.size + 1, 5, none⟩ (.int .i64 i.lo)).setCell ⟨w.heap.size + 1, 6, none⟩ (.int .i64 i.hi) := hZ
  rw [← hZ']
  have RZ := show Z.heap[w.heap.size + 1]? = some (.cells #[.int .i64 i.k, .string ⟨i.n.toArray⟩, .slice a1 i.nE i.nE, .slice a2 i.nF i.nF, .int .i64 i.K, .int .i64 i.lo, .int .i64 i.hi] 42) by rw [hZ']; have := blk_set (blk_set (blk_set (blk_set (blk_set (blk_set (blk_set RT.out 0 (.int .i64 i.k)) 1 (.string ⟨i.n.toArray⟩)) 2 (.slice a1 i.nE i.nE)) 3 (.slice a2 i.nF i.nF)) 4 (.int .i64 i.K)) 5 (.int .i64 i.lo)) 6 (.int .i64 i.hi); simpa using this
  have HZB : Below w.heap.size w Z := by rw [hZ]; exact Below.setCells' _ (by omega) _ _ _ BT.out
  have zR : w.heap.size + 1 < W.heap.size := by omega
  have zRV : w.heap.size + 1 < V.heap.size := by omega
  have EZ : OpCp Z W.heap.size a1 i.nE i.E := by rw [hZ']; exact ((((((ET.out.set _ zR _).set _ zR _).set _ zR _).set _ zR _).set _ zR _).set _ zR _).set _ zR _
  have FZ : OpCp Z V.heap.size a2 i.nF i.F := by rw [hZ']; exact ((((((FT.out.set _ zRV _).set _ zRV _).set _ zRV _).set _ zRV _).set _ zRV _).set _ zRV _).set _ zRV _
  clear hZ hZ'
  obtain ⟨s0, s1, s2, s3, s4, s5, s6⟩ := blk7 RZ
  refine bodyPost_ret (v := .agg #[.int .i64 i.k, .string ⟨i.n.toArray⟩, .slice a1 i.nE i.nE, .slice a2 i.nF i.nF, .int .i64 i.K, .int .i64 i.lo, .int .i64 i.hi]) (by simp [results, Tryz.results26, go_sem, s0, s1, s2, s3, s4, s5, s6]; try rfl) rfl ?_
  exact ⟨a1, a2, rfl, HZB, EZ.low (by omega), FZ.low (by omega)⟩
end Go.Proofs.YthobdaeglhdhnaaGreatDoor.LawP
