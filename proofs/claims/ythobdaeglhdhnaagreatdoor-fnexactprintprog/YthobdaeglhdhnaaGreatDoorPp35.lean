import Derived.Test.YthobdaeglhdhnaaGreatDoorPp16
import Derived.Test.YthobdaeglhdhnaaGreatDoorPp29
namespace Go.Proofs.YthobdaeglhdhnaaGreatDoor.Syn
open Go Go.RowKit Go.Proofs.YthobdaeglhdhnaaGreatDoor Go.Proofs.YthobdaeglhdhnaaGreatDoor.Mem
open Go.Proofs.YthobdaeglhdhnaaGreatDoor.Print (Own infoB byteCells_one)
set_option linter.unusedVariables false
set_option linter.unusedSimpArgs false
attribute [local go_sem ↓] Go.wp_at_zero Go.wp_at_succ

theorem Rt.other {w w' : World} {v : Value} {bs : List UInt8} {g : Nat} {C : Array Value} {t : TypeId} {fr : Nat × Nat} (h : Rt w v bs) (hb : w.heap[g]? = some (.cells C t fr)) (ht : t ≠ 5) (hk : ∀ k, k < w.heap.size → k ≠ g → w'.heap[k]? = w.heap[k]?) : Rt w' v bs := by
  obtain ⟨g', off, c, rfl, ⟨C', fr', hg⟩, hc⟩ := h
  have hne : g' ≠ g := by
    rintro rfl
    rw [hb] at hg
    injection hg with hg
    injection hg with _ h5
    exact ht h5
  have e := hk g' (blk_lt hg) hne
  exact ⟨g', off, c, rfl, ⟨C', fr', by rw [e]; exact hg⟩, fun j x hx => by rw [World.cell?_of_block (a := ⟨g', off + j, none⟩) e]; exact hc j x hx⟩
theorem Rt.set {w : World} {v u : Value} {bs : List UInt8} {g k : Nat} {C : Array Value} {t : TypeId} {fr : Nat × Nat} (h : Rt w v bs) (hb : w.heap[g]? = some (.cells C t fr)) (ht : t ≠ 5) : Rt (w.setCell ⟨g, k, none⟩ u) v bs :=
  h.other hb ht fun k' hk' hne => by
    rw [Array.getElem?_eq_getElem hk']
    exact blk_set_other (Array.getElem?_eq_getElem hk') hne u
set_option maxHeartbeats 3200000 in
set_option maxRecDepth 100000 in
/-- l2Apply of an Op that takes no operand, with its text. -/
theorem applyT0 (o : Po) (a : Option Addr) (c N : Nat) (w : World) (hN : N = 0) (hop : opB o = true) (hk6 : o.k ≤ 6) :
    Calls Tryz.prog 58 #[.agg #[.int .i64 o.k, .int .i64 o.v, .string ⟨o.n.toArray⟩], .slice a N c, .bool true] w fun e w' => ∃ v, e = .returned (.agg #[.int .i64 (pstr o), .int .i64 0, v]) ∧ Rt w' v (leafT o) ∧ Below w.heap.size w w' := by
  obtain ⟨S, hS⟩ : ∃ S, S = pstr o := ⟨_, rfl⟩
  have SC : Hid (∀ W : World, Calls Tryz.prog 74 #[.agg #[.int .i64 o.k, .int .i64 o.v, .string ⟨o.n.toArray⟩]] W fun e w' => e = .returned (.int .i64 S) ∧ Below W.heap.size W w') := fun W => by rw [hS]; exact strengthS o W
  rw [← hS]
  have LF := Hid.mk fun (W : World) => leafS o W hop hk6
  clear hS hop hk6
  go_enter Tryz.func58, Tryz.ntmps58
  go_wp2_with fail
  refine (SC.out _).mono ?_
  rintro e w1 ⟨rfl, hb1⟩
  have HB1 := Hid.mk (below_then (w := w) (by go_grown) hb1)
  have P1 := Hid.mk (blk_below (blk_alloc (blk_new w _) _) hb1)
  have R1 := Hid.mk (blk_below (blk_new1 w _ _) hb1)
  clear hb1 SC
  have z1 := blk_lt R1.out
  have hq : ((N : Int) == 0) = true := by simp [hN]
  clear hN
  have p0 := blk_cell P1.out 0
  have p1 := blk_cell P1.out 1
  have p2 := blk_cell P1.out 2
  simp only [List.getElem?_toArray, List.getElem?_cons_zero, List.getElem?_cons_succ] at p0 p1 p2
  have x0 := fun (b : Obj) => cell_alloc' p0 b
  have x1 := fun (b : Obj) => cell_alloc' p1 b
  have x2 := fun (b : Obj) => cell_alloc' p2 b
  go_wp2_with fail
  clear p0 p1 p2 x0 x1 x2
  refine (LF.out _).mono ?_
  rintro e w2 ⟨v2, rfl, hR, hb2⟩
  have HR := Hid.mk hR
  obtain ⟨g', off', c', rfl, -, -⟩ := hR
  have R2 := Hid.mk (blk_below (blk_alloc R1.out (.cells #[.int .i64 S, .int .i64 0, .slice none 0 0] 73)) hb2)
  have U2 := Hid.mk (blk_below (blk_new w1 (.cells #[.int .i64 S, .int .i64 0, .slice none 0 0] 73)) hb2)
  have HB2 := Hid.mk (below_then (below_alloc' HB1.out _) hb2)
  clear hb2 LF P1 R1 HB1
  have r0 := blk_cell R2.out 0
  have r1 := blk_cell R2.out 1
  have r2 := blk_cell R2.out 2
  have q0 := blk_unfrozen R2.out 0
  have q1 := blk_unfrozen R2.out 1
  have q2 := blk_unfrozen R2.out 2
  have u0 := blk_cell U2.out 0
  have u1 := blk_cell U2.out 1
  have u2 := blk_cell U2.out 2
  have f2 := blk_unfrozen U2.out 2
  simp only [List.getElem?_toArray, List.getElem?_cons_zero, List.getElem?_cons_succ] at r0 r1 r2 u0 u1 u2
  have hne : w1.heap.size ≠ w.heap.size + 1 := by omega
  have hne' : w.heap.size + 1 ≠ w1.heap.size := by omega
  go_wp2
  obtain ⟨v, hv⟩ : ∃ v, v = Value.slice (some ⟨g', off', none⟩) (leafT o).length c' := ⟨_, rfl⟩
  rw [← hv] at HR ⊢
  obtain ⟨Y, hY⟩ : ∃ Y : World, Y = w2.setCell ⟨w1.heap.size, 2, none⟩ v := ⟨_, rfl⟩
  rw [← hY]
  have RY := Hid.mk (show Y.heap[w.heap.size + 1]? = some (.cells #[.int .i64 0, .int .i64 0, .slice none 0 0] 73) by rw [hY]; exact blk_set_other R2.out hne' _)
  have TY := Hid.mk (show Rt Y v (leafT o) by rw [hY]; exact HR.out.set U2.out (by decide))
  have BY := Hid.mk (show Below w.heap.size w Y by rw [hY]; exact below_set HB2.out _ (by show w.heap.size ≤ w1.heap.size; omega) _)
  clear r0 r1 r2 q0 q1 q2 u0 u1 u2 f2 hY
  obtain ⟨Z, hZ⟩ : ∃ Z : World, Z = ((Y.setCell ⟨w.heap.size + 1, 0, none⟩ (.int .i64 S)).setCell ⟨w.heap.size + 1, 1, none⟩ (.int .i64 0)).setCell ⟨w.heap.size + 1, 2, none⟩ v := ⟨_, rfl⟩
  rw [← hZ]
  obtain ⟨s0, s1, s2⟩ := ret_rec3 (show Z.heap[w.heap.size + 1]? = some (.cells #[.int .i64 S, .int .i64 0, v] 73) by rw [hZ]; exact blk_store3 RY.out)
  have hs0 := blk_set RY.out 0 (.int .i64 S)
  have hs1 := blk_set hs0 1 (.int .i64 0)
  simp only [List.setIfInBounds_toArray, List.set_cons_zero, List.set_cons_succ] at hs0 hs1
  have HZR : Rt Z v (leafT o) := by rw [hZ]; exact ((TY.out.set RY.out (by decide)).set hs0 (by decide)).set hs1 (by decide)
  have HZB : Below w.heap.size w Z := by rw [hZ]; exact below_set (below_set (below_set BY.out _ (by simp) _) _ (by simp) _) _ (by simp) _
  clear hZ
  refine bodyPost_ret (v := .agg #[.int .i64 S, .int .i64 0, v]) (by simp [results, Tryz.results58, go_sem, s0, s1, s2]; try rfl) rfl ⟨v, rfl, HZR, HZB⟩
end Go.Proofs.YthobdaeglhdhnaaGreatDoor.Syn
