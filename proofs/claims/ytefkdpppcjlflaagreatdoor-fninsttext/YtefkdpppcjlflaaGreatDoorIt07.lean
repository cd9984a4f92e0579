import Derived.Test.YtefkdpppcjlflaaGreatDoorIt06
namespace Go.Proofs.YtefkdpppcjlflaaGreatDoor.Parse
open Go Go.RowKit Go.Proofs.YtefkdpppcjlflaaGreatDoor.Mem
set_option linter.unusedVariables false
set_option linter.unusedSimpArgs false
attribute [local go_sem ↓] Go.wp_at_zero Go.wp_at_succ

/-- What is left of a line behind k fields; field k; whether one of k numbers was of a wrong form. -/
def nxt : Nat → List UInt8 → List UInt8
  | 0, bs => bs
  | k + 1, bs => tl 32 (nxt k bs)
def fN (bs : List UInt8) (k : Nat) : List UInt8 := hd 32 (nxt k bs)
def bads (bad : Bool) (bs : List UInt8) : Nat → Bool
  | 0 => bad
  | k + 1 => bads bad bs k || !isNum (fN bs k)
theorem gb_new {w W : World} {g r i : Nat} {v : Value} (h : w.grownBy W (some g)) (hr : w.heap.size ≤ r) : w.grownBy (W.setCell ⟨r, i, none⟩ v) (some g) :=
  ⟨h.os, h.tape, h.output, by rw [size_set]; exact h.size, fun k hk hne => by rw [Below.heap_setCell _ _ _ _ (show k ≠ (⟨r, i, none⟩ : Addr).block by simp; omega)]; exact h.block k hk hne⟩
theorem Cur.other {B g r i : Nat} {w : World} {bs : List UInt8} {bad : Bool} {v : Value} (h : Cur B g w bs bad) (hr : B ≤ r) (hne : g ≠ r) : Cur B g (w.setCell ⟨r, i, none⟩ v) bs bad := by
  obtain ⟨u, hx, ht⟩ := h
  exact ⟨u, blk_set_other hx hne v, ht.set hr i v⟩
theorem blk_grown {w w' : World} {g r : Nat} {o : Obj} (h : w.heap[r]? = some o) (hg : w.grownBy w' (some g)) (hne : r ≠ g) : w'.heap[r]? = some o := by
  rw [hg.block r (blk_lt h) (by simp; exact hne)]; exact h

theorem nxt_len (bs : List UInt8) : ∀ k, (nxt k bs).length ≤ bs.length
  | 0 => Nat.le_refl _
  | k + 1 => Nat.le_trans (tl_len 32 _) (nxt_len bs k)

set_option maxHeartbeats 1600000 in
set_option maxRecDepth 1000000 in
theorem placeI (B g : Nat) (bs : List UInt8) (bad : Bool) (w : World) (hB : B ≤ g) (hBs : B ≤ w.heap.size) (h : Cur B g w bs bad) (hl : bs.length ≤ 1000000) :
    Calls Tryz.prog 84 #[.pointer (some ⟨g, 0, none⟩)] w fun e w' => e = .returned (.agg #[.int .i64 (numV (fN bs 0)), .int .i64 (numV (fN bs 1)), .int .i64 (numV (fN bs 2)), .int .i64 (numV (fN bs 3)), .int .i64 (numV (fN bs 4))]) ∧ Cur B g w' (nxt 5 bs) (((((bad || !isNum (fN bs 0)) || !isNum (fN bs 1)) || !isNum (fN bs 2)) || !isNum (fN bs 3)) || !isNum (fN bs 4)) ∧ w.grownBy w' (some g) := by
  have hgl := h.lt
  have hrg : w.heap.size ≠ g := Nat.ne_of_gt hgl
  obtain ⟨W, hW⟩ : ∃ W, W = w.alloc (.cells #[.int .i64 0, .int .i64 0, .int .i64 0, .int .i64 0, .int .i64 0] 43) := ⟨_, rfl⟩
  have HA : Hid (Below w.heap.size w W) := by rw [hW]; exact below_alloc' (Below.refl _ _) _
  have HR : Hid (W.heap[w.heap.size]? = some (.cells #[.int .i64 0, .int .i64 0, .int .i64 0, .int .i64 0, .int .i64 0] 43)) := by rw [hW]; exact blk_new _ _
  have hsz : w.heap.size ≤ W.heap.size := HA.out.size
  have HC := Hid.mk (h.keep hBs HA.out)
  have HG : Hid (W.grownBy W (some g)) := World.grownBy.refl _ _
  have HG0 : Hid (w.grownBy W (some g)) := gb_below HA.out
  have HL := Hid.mk hl
  clear h hl
  go_enter Tryz.func84, Tryz.ntmps84
  go_wp2_with fail
  rw [← hW]
  clear hW
  go_wp2_with (first
    | (go_at_call 82; refine (numberI B g _ _ _ hB (Nat.le_trans hBs (Nat.le_trans hsz HG.out.size)) HC.out HL.out).mono ?_; rintro e w1 ⟨rfl, c1, g1⟩; (try clear z0 y0 z1 y1 z2 y2 z3 y3 z4 y4); have HG' := Hid.mk (gb_then HG.out g1); have HL' := Hid.mk (Nat.le_trans (tl_len 32 _) HL.out); have HR' := Hid.mk (blk_grown HR.out g1 hrg); clear HG HL HC HR; have HG := HG'; have HL := HL'; have HR := HR'; have HC := Hid.mk c1; clear HG' HL' HR' c1 g1; have z0 : w1.cell? ⟨w.heap.size, 0, none⟩ = some (.int .i64 0) := (by rw [blk_cell HR.out 0]; rfl); have y0 : w1.frozen? ⟨w.heap.size, 0, none⟩ = false := blk_unfrozen HR.out 0; have z1 : w1.cell? ⟨w.heap.size, 1, none⟩ = some (.int .i64 0) := (by rw [blk_cell HR.out 1]; rfl); have y1 : w1.frozen? ⟨w.heap.size, 1, none⟩ = false := blk_unfrozen HR.out 1; have z2 : w1.cell? ⟨w.heap.size, 2, none⟩ = some (.int .i64 0) := (by rw [blk_cell HR.out 2]; rfl); have y2 : w1.frozen? ⟨w.heap.size, 2, none⟩ = false := blk_unfrozen HR.out 2; have z3 : w1.cell? ⟨w.heap.size, 3, none⟩ = some (.int .i64 0) := (by rw [blk_cell HR.out 3]; rfl); have y3 : w1.frozen? ⟨w.heap.size, 3, none⟩ = false := blk_unfrozen HR.out 3; have z4 : w1.cell? ⟨w.heap.size, 4, none⟩ = some (.int .i64 0) := (by rw [blk_cell HR.out 4]; rfl); have y4 : w1.frozen? ⟨w.heap.size, 4, none⟩ = false := blk_unfrozen HR.out 4))
  have HGG := Hid.mk (gb_then HG0.out HG.out)
  clear HG HG0
  obtain ⟨Z, hZ⟩ : ∃ Z, Z = (((((w1.setCell ⟨w.heap.size, 0, none⟩ (.int .i64 (numV (fN bs 0)))).setCell ⟨w.heap.size, 1, none⟩ (.int .i64 (numV (fN bs 1)))).setCell ⟨w.heap.size, 2, none⟩ (.int .i64 (numV (fN bs 2)))).setCell ⟨w.heap.size, 3, none⟩ (.int .i64 (numV (fN bs 3)))).setCell ⟨w.heap.size, 4, none⟩ (.int .i64 (numV (fN bs 4)))) := ⟨_, rfl⟩
  have C9 : Hid (Cur B g Z (nxt 5 bs) (((((bad || !isNum (fN bs 0)) || !isNum (fN bs 1)) || !isNum (fN bs 2)) || !isNum (fN bs 3)) || !isNum (fN bs 4))) := by rw [hZ]; exact (Cur.other (Cur.other (Cur.other (Cur.other (Cur.other HC.out hBs (Nat.ne_of_lt hgl)) hBs (Nat.ne_of_lt hgl)) hBs (Nat.ne_of_lt hgl)) hBs (Nat.ne_of_lt hgl)) hBs (Nat.ne_of_lt hgl))
  have G9 : Hid (w.grownBy Z (some g)) := by rw [hZ]; exact (gb_new (gb_new (gb_new (gb_new (gb_new HGG.out (Nat.le_refl _)) (Nat.le_refl _)) (Nat.le_refl _)) (Nat.le_refl _)) (Nat.le_refl _))
  have R9 : Hid (Z.heap[w.heap.size]? = some (.cells #[.int .i64 (numV (fN bs 0)), .int .i64 (numV (fN bs 1)), .int .i64 (numV (fN bs 2)), .int .i64 (numV (fN bs 3)), .int .i64 (numV (fN bs 4))] 43)) := by
    rw [hZ]
    have b0 := blk_set HR.out 0 (.int .i64 (numV (fN bs 0)))
    simp only [List.setIfInBounds_toArray, List.set_cons_zero, List.set_cons_succ] at b0
    have b1 := blk_set b0 1 (.int .i64 (numV (fN bs 1)))
    simp only [List.setIfInBounds_toArray, List.set_cons_zero, List.set_cons_succ] at b1
    have b2 := blk_set b1 2 (.int .i64 (numV (fN bs 2)))
    simp only [List.setIfInBounds_toArray, List.set_cons_zero, List.set_cons_succ] at b2
    have b3 := blk_set b2 3 (.int .i64 (numV (fN bs 3)))
    simp only [List.setIfInBounds_toArray, List.set_cons_zero, List.set_cons_succ] at b3
    have b4 := blk_set b3 4 (.int .i64 (numV (fN bs 4)))
    simp only [List.setIfInBounds_toArray, List.set_cons_zero, List.set_cons_succ] at b4
    exact b4
  simp only [fN, nxt] at hZ C9 R9 ⊢
  rw [← hZ]
  clear hZ z0 y0 z1 y1 z2 y2 z3 y3 z4 y4 HR HC
  have r0 := (blk_cell R9.out 0).trans rfl
  have r1 := (blk_cell R9.out 1).trans rfl
  have r2 := (blk_cell R9.out 2).trans rfl
  have r3 := (blk_cell R9.out 3).trans rfl
  have r4 := (blk_cell R9.out 4).trans rfl
  refine bodyPost_ret (by simp [results, Tryz.results84, go_sem, r0, r1, r2, r3, r4]; try rfl) rfl ?_
  exact ⟨rfl, C9.out, G9.out⟩

set_option maxHeartbeats 1600000 in
set_option maxRecDepth 1000000 in
theorem vehicleI (B g : Nat) (bs : List UInt8) (bad : Bool) (w : World) (hB : B ≤ g) (hBs : B ≤ w.heap.size) (h : Cur B g w bs bad) (hl : bs.length ≤ 1000000) :
    Calls Tryz.prog 70 #[.pointer (some ⟨g, 0, none⟩)] w fun e w' => e = .returned (.agg #[.int .i64 (numV (fN bs 0)), .int .i64 (tgsV (fN bs 1)), .int .i64 (numV (fN bs 2)), .int .i64 (numV (fN bs 3)), .int .i64 (numV (fN bs 4)), .int .i64 (numV (fN bs 5)), .int .i64 (numV (fN bs 6))]) ∧ Cur B g w' (nxt 7 bs) (bads ((bad || !isNum (fN bs 0)) || !isTags (fN bs 1)) (nxt 2 bs) 5) ∧ w.grownBy w' (some g) := by
  have hgl := h.lt
  have hrg : w.heap.size ≠ g := Nat.ne_of_gt hgl
  obtain ⟨W, hW⟩ : ∃ W, W = w.alloc (.cells #[.int .i64 0, .int .i64 0, .int .i64 0, .int .i64 0, .int .i64 0, .int .i64 0, .int .i64 0] 45) := ⟨_, rfl⟩
  have HA : Hid (Below w.heap.size w W) := by rw [hW]; exact below_alloc' (Below.refl _ _) _
  have HR : Hid (W.heap[w.heap.size]? = some (.cells #[.int .i64 0, .int .i64 0, .int .i64 0, .int .i64 0, .int .i64 0, .int .i64 0, .int .i64 0] 45)) := by rw [hW]; exact blk_new _ _
  have hsz : w.heap.size ≤ W.heap.size := HA.out.size
  have HC := Hid.mk (h.keep hBs HA.out)
  have HG : Hid (W.grownBy W (some g)) := World.grownBy.refl _ _
  have HG0 : Hid (w.grownBy W (some g)) := gb_below HA.out
  have HL := Hid.mk hl
  clear h hl
  go_enter Tryz.func70, Tryz.ntmps70
  go_wp2_with fail
  rw [← hW]
  clear hW
  go_wp2_with (first
    | (go_at_call 82; refine (numberI B g _ _ _ hB (Nat.le_trans hBs (Nat.le_trans hsz HG.out.size)) HC.out HL.out).mono ?_; rintro e w1 ⟨rfl, c1, g1⟩; (try clear z0 y0 z1 y1 z2 y2 z3 y3 z4 y4 z5 y5 z6 y6); have HG' := Hid.mk (gb_then HG.out g1); have HL' := Hid.mk (Nat.le_trans (tl_len 32 _) HL.out); have HR' := Hid.mk (blk_grown HR.out g1 hrg); clear HG HL HC HR; have HG := HG'; have HL := HL'; have HR := HR'; have HC := Hid.mk c1; clear HG' HL' HR' c1 g1; have z0 : w1.cell? ⟨w.heap.size, 0, none⟩ = some (.int .i64 0) := (by rw [blk_cell HR.out 0]; rfl); have y0 : w1.frozen? ⟨w.heap.size, 0, none⟩ = false := blk_unfrozen HR.out 0; have z1 : w1.cell? ⟨w.heap.size, 1, none⟩ = some (.int .i64 0) := (by rw [blk_cell HR.out 1]; rfl); have y1 : w1.frozen? ⟨w.heap.size, 1, none⟩ = false := blk_unfrozen HR.out 1; have z2 : w1.cell? ⟨w.heap.size, 2, none⟩ = some (.int .i64 0) := (by rw [blk_cell HR.out 2]; rfl); have y2 : w1.frozen? ⟨w.heap.size, 2, none⟩ = false := blk_unfrozen HR.out 2; have z3 : w1.cell? ⟨w.heap.size, 3, none⟩ = some (.int .i64 0) := (by rw [blk_cell HR.out 3]; rfl); have y3 : w1.frozen? ⟨w.heap.size, 3, none⟩ = false := blk_unfrozen HR.out 3; have z4 : w1.cell? ⟨w.heap.size, 4, none⟩ = some (.int .i64 0) := (by rw [blk_cell HR.out 4]; rfl); have y4 : w1.frozen? ⟨w.heap.size, 4, none⟩ = false := blk_unfrozen HR.out 4; have z5 : w1.cell? ⟨w.heap.size, 5, none⟩ = some (.int .i64 0) := (by rw [blk_cell HR.out 5]; rfl); have y5 : w1.frozen? ⟨w.heap.size, 5, none⟩ = false := blk_unfrozen HR.out 5; have z6 : w1.cell? ⟨w.heap.size, 6, none⟩ = some (.int .i64 0) := (by rw [blk_cell HR.out 6]; rfl); have y6 : w1.frozen? ⟨w.heap.size, 6, none⟩ = false := blk_unfrozen HR.out 6)
    | (go_at_call 83; refine (tagsI B g _ _ _ hB (Nat.le_trans hBs (Nat.le_trans hsz HG.out.size)) HC.out HL.out).mono ?_; rintro e w1 ⟨rfl, c1, g1⟩; (try clear z0 y0 z1 y1 z2 y2 z3 y3 z4 y4 z5 y5 z6 y6); have HG' := Hid.mk (gb_then HG.out g1); have HL' := Hid.mk (Nat.le_trans (tl_len 32 _) HL.out); have HR' := Hid.mk (blk_grown HR.out g1 hrg); clear HG HL HC HR; have HG := HG'; have HL := HL'; have HR := HR'; have HC := Hid.mk c1; clear HG' HL' HR' c1 g1; have z0 : w1.cell? ⟨w.heap.size, 0, none⟩ = some (.int .i64 0) := (by rw [blk_cell HR.out 0]; rfl); have y0 : w1.frozen? ⟨w.heap.size, 0, none⟩ = false := blk_unfrozen HR.out 0; have z1 : w1.cell? ⟨w.heap.size, 1, none⟩ = some (.int .i64 0) := (by rw [blk_cell HR.out 1]; rfl); have y1 : w1.frozen? ⟨w.heap.size, 1, none⟩ = false := blk_unfrozen HR.out 1; have z2 : w1.cell? ⟨w.heap.size, 2, none⟩ = some (.int .i64 0) := (by rw [blk_cell HR.out 2]; rfl); have y2 : w1.frozen? ⟨w.heap.size, 2, none⟩ = false := blk_unfrozen HR.out 2; have z3 : w1.cell? ⟨w.heap.size, 3, none⟩ = some (.int .i64 0) := (by rw [blk_cell HR.out 3]; rfl); have y3 : w1.frozen? ⟨w.heap.size, 3, none⟩ = false := blk_unfrozen HR.out 3; have z4 : w1.cell? ⟨w.heap.size, 4, none⟩ = some (.int .i64 0) := (by rw [blk_cell HR.out 4]; rfl); have y4 : w1.frozen? ⟨w.heap.size, 4, none⟩ = false := blk_unfrozen HR.out 4; have z5 : w1.cell? ⟨w.heap.size, 5, none⟩ = some (.int .i64 0) := (by rw [blk_cell HR.out 5]; rfl); have y5 : w1.frozen? ⟨w.heap.size, 5, none⟩ = false := blk_unfrozen HR.out 5; have z6 : w1.cell? ⟨w.heap.size, 6, none⟩ = some (.int .i64 0) := (by rw [blk_cell HR.out 6]; rfl); have y6 : w1.frozen? ⟨w.heap.size, 6, none⟩ = false := blk_unfrozen HR.out 6)
    | (go_at_call 84; refine (placeI B g _ _ _ hB (Nat.le_trans hBs (Nat.le_trans hsz HG.out.size)) HC.out HL.out).mono ?_; rintro e w1 ⟨rfl, c1, g1⟩; (try clear z0 y0 z1 y1 z2 y2 z3 y3 z4 y4 z5 y5 z6 y6); have HG' := Hid.mk (gb_then HG.out g1); have HL' := Hid.mk (Nat.le_trans (nxt_len _ 5) HL.out); have HR' := Hid.mk (blk_grown HR.out g1 hrg); clear HG HL HC HR; have HG := HG'; have HL := HL'; have HR := HR'; have HC := Hid.mk c1; clear HG' HL' HR' c1 g1; have z0 : w1.cell? ⟨w.heap.size, 0, none⟩ = some (.int .i64 0) := (by rw [blk_cell HR.out 0]; rfl); have y0 : w1.frozen? ⟨w.heap.size, 0, none⟩ = false := blk_unfrozen HR.out 0; have z1 : w1.cell? ⟨w.heap.size, 1, none⟩ = some (.int .i64 0) := (by rw [blk_cell HR.out 1]; rfl); have y1 : w1.frozen? ⟨w.heap.size, 1, none⟩ = false := blk_unfrozen HR.out 1; have z2 : w1.cell? ⟨w.heap.size, 2, none⟩ = some (.int .i64 0) := (by rw [blk_cell HR.out 2]; rfl); have y2 : w1.frozen? ⟨w.heap.size, 2, none⟩ = false := blk_unfrozen HR.out 2; have z3 : w1.cell? ⟨w.heap.size, 3, none⟩ = some (.int .i64 0) := (by rw [blk_cell HR.out 3]; rfl); have y3 : w1.frozen? ⟨w.heap.size, 3, none⟩ = false := blk_unfrozen HR.out 3; have z4 : w1.cell? ⟨w.heap.size, 4, none⟩ = some (.int .i64 0) := (by rw [blk_cell HR.out 4]; rfl); have y4 : w1.frozen? ⟨w.heap.size, 4, none⟩ = false := blk_unfrozen HR.out 4; have z5 : w1.cell? ⟨w.heap.size, 5, none⟩ = some (.int .i64 0) := (by rw [blk_cell HR.out 5]; rfl); have y5 : w1.frozen? ⟨w.heap.size, 5, none⟩ = false := blk_unfrozen HR.out 5; have z6 : w1.cell? ⟨w.heap.size, 6, none⟩ = some (.int .i64 0) := (by rw [blk_cell HR.out 6]; rfl); have y6 : w1.frozen? ⟨w.heap.size, 6, none⟩ = false := blk_unfrozen HR.out 6))
  have HGG := Hid.mk (gb_then HG0.out HG.out)
  clear HG HG0
  obtain ⟨Z, hZ⟩ : ∃ Z, Z = (((((((w1.setCell ⟨w.heap.size, 0, none⟩ (.int .i64 (numV (fN bs 0)))).setCell ⟨w.heap.size, 1, none⟩ (.int .i64 (tgsV (fN bs 1)))).setCell ⟨w.heap.size, 2, none⟩ (.int .i64 (numV (fN bs 2)))).setCell ⟨w.heap.size, 3, none⟩ (.int .i64 (numV (fN bs 3)))).setCell ⟨w.heap.size, 4, none⟩ (.int .i64 (numV (fN bs 4)))).setCell ⟨w.heap.size, 5, none⟩ (.int .i64 (numV (fN bs 5)))).setCell ⟨w.heap.size, 6, none⟩ (.int .i64 (numV (fN bs 6)))) := ⟨_, rfl⟩
  have C9 : Hid (Cur B g Z (nxt 7 bs) (bads ((bad || !isNum (fN bs 0)) || !isTags (fN bs 1)) (nxt 2 bs) 5)) := by rw [hZ]; exact (Cur.other (Cur.other (Cur.other (Cur.other (Cur.other (Cur.other (Cur.other HC.out hBs (Nat.ne_of_lt hgl)) hBs (Nat.ne_of_lt hgl)) hBs (Nat.ne_of_lt hgl)) hBs (Nat.ne_of_lt hgl)) hBs (Nat.ne_of_lt hgl)) hBs (Nat.ne_of_lt hgl)) hBs (Nat.ne_of_lt hgl))
  have G9 : Hid (w.grownBy Z (some g)) := by rw [hZ]; exact (gb_new (gb_new (gb_new (gb_new (gb_new (gb_new (gb_new HGG.out (Nat.le_refl _)) (Nat.le_refl _)) (Nat.le_refl _)) (Nat.le_refl _)) (Nat.le_refl _)) (Nat.le_refl _)) (Nat.le_refl _))
  have R9 : Hid (Z.heap[w.heap.size]? = some (.cells #[.int .i64 (numV (fN bs 0)), .int .i64 (tgsV (fN bs 1)), .int .i64 (numV (fN bs 2)), .int .i64 (numV (fN bs 3)), .int .i64 (numV (fN bs 4)), .int .i64 (numV (fN bs 5)), .int .i64 (numV (fN bs 6))] 45)) := by
    rw [hZ]
    have b0 := blk_set HR.out 0 (.int .i64 (numV (fN bs 0)))
    simp only [List.setIfInBounds_toArray, List.set_cons_zero, List.set_cons_succ] at b0
    have b1 := blk_set b0 1 (.int .i64 (tgsV (fN bs 1)))
    simp only [List.setIfInBounds_toArray, List.set_cons_zero, List.set_cons_succ] at b1
    have b2 := blk_set b1 2 (.int .i64 (numV (fN bs 2)))
    simp only [List.setIfInBounds_toArray, List.set_cons_zero, List.set_cons_succ] at b2
    have b3 := blk_set b2 3 (.int .i64 (numV (fN bs 3)))
    simp only [List.setIfInBounds_toArray, List.set_cons_zero, List.set_cons_succ] at b3
    have b4 := blk_set b3 4 (.int .i64 (numV (fN bs 4)))
    simp only [List.setIfInBounds_toArray, List.set_cons_zero, List.set_cons_succ] at b4
    have b5 := blk_set b4 5 (.int .i64 (numV (fN bs 5)))
    simp only [List.setIfInBounds_toArray, List.set_cons_zero, List.set_cons_succ] at b5
    have b6 := blk_set b5 6 (.int .i64 (numV (fN bs 6)))
    simp only [List.setIfInBounds_toArray, List.set_cons_zero, List.set_cons_succ] at b6
    exact b6
  simp only [fN, nxt] at hZ C9 R9 ⊢
  rw [← hZ]
  clear hZ z0 y0 z1 y1 z2 y2 z3 y3 z4 y4 z5 y5 z6 y6 HR HC
  have r0 := (blk_cell R9.out 0).trans rfl
  have r1 := (blk_cell R9.out 1).trans rfl
  have r2 := (blk_cell R9.out 2).trans rfl
  have r3 := (blk_cell R9.out 3).trans rfl
  have r4 := (blk_cell R9.out 4).trans rfl
  have r5 := (blk_cell R9.out 5).trans rfl
  have r6 := (blk_cell R9.out 6).trans rfl
  refine bodyPost_ret (by simp [results, Tryz.results70, go_sem, r0, r1, r2, r3, r4, r5, r6]; try rfl) rfl ?_
  exact ⟨rfl, C9.out, G9.out⟩

set_option maxHeartbeats 1600000 in
set_option maxRecDepth 1000000 in
theorem requestI (B g : Nat) (bs : List UInt8) (bad : Bool) (w : World) (hB : B ≤ g) (hBs : B ≤ w.heap.size) (h : Cur B g w bs bad) (hl : bs.length ≤ 1000000) :
    Calls Tryz.prog 71 #[.pointer (some ⟨g, 0, none⟩)] w fun e w' => e = .returned (.agg #[.int .i64 (numV (fN bs 0)), .int .i64 (tgsV (fN bs 1)), .int .i64 (numV (fN bs 2)), .int .i64 (numV (fN bs 3)), .int .i64 (numV (fN bs 4)), .int .i64 (numV (fN bs 5)), .int .i64 (numV (fN bs 6)), .int .i64 (numV (fN bs 7)), .int .i64 (numV (fN bs 8)), .int .i64 (numV (fN bs 9)), .int .i64 (numV (fN bs 10)), .int .i64 (numV (fN bs 11))]) ∧ Cur B g w' (nxt 12 bs) (bads (bads ((bad || !isNum (fN bs 0)) || !isTags (fN bs 1)) (nxt 2 bs) 5) (nxt 7 bs) 5) ∧ w.grownBy w' (some g) := by
  have hgl := h.lt
  have hrg : w.heap.size ≠ g := Nat.ne_of_gt hgl
  obtain ⟨W, hW⟩ : ∃ W, W = w.alloc (.cells #[.int .i64 0, .int .i64 0, .int .i64 0, .int .i64 0, .int .i64 0, .int .i64 0, .int .i64 0, .int .i64 0, .int .i64 0, .int .i64 0, .int .i64 0, .int .i64 0] 48) := ⟨_, rfl⟩
  have HA : Hid (Below w.heap.size w W) := by rw [hW]; exact below_alloc' (Below.refl _ _) _
  have HR : Hid (W.heap[w.heap.size]? = some (.cells #[.int .i64 0, .int .i64 0, .int .i64 0, .int .i64 0, .int .i64 0, .int .i64 0, .int .i64 0, .int .i64 0, .int .i64 0, .int .i64 0, .int .i64 0, .int .i64 0] 48)) := by rw [hW]; exact blk_new _ _
  have hsz : w.heap.size ≤ W.heap.size := HA.out.size
  have HC := Hid.mk (h.keep hBs HA.out)
  have HG : Hid (W.grownBy W (some g)) := World.grownBy.refl _ _
  have HG0 : Hid (w.grownBy W (some g)) := gb_below HA.out
  have HL := Hid.mk hl
  clear h hl
  go_enter Tryz.func71, Tryz.ntmps71
  go_wp2_with fail
  rw [← hW]
  clear hW
  go_wp2_with (first
    | (go_at_call 82; refine (numberI B g _ _ _ hB (Nat.le_trans hBs (Nat.le_trans hsz HG.out.size)) HC.out HL.out).mono ?_; rintro e w1 ⟨rfl, c1, g1⟩; (try clear z0 y0 z1 y1 z2 y2 z3 y3 z4 y4 z5 y5 z6 y6 z7 y7 z8 y8 z9 y9 z10 y10 z11 y11); have HG' := Hid.mk (gb_then HG.out g1); have HL' := Hid.mk (Nat.le_trans (tl_len 32 _) HL.out); have HR' := Hid.mk (blk_grown HR.out g1 hrg); clear HG HL HC HR; have HG := HG'; have HL := HL'; have HR := HR'; have HC := Hid.mk c1; clear HG' HL' HR' c1 g1; have z0 : w1.cell? ⟨w.heap.size, 0, none⟩ = some (.int .i64 0) := (by rw [blk_cell HR.out 0]; rfl); have y0 : w1.frozen? ⟨w.heap.size, 0, none⟩ = false := blk_unfrozen HR.out 0; have z1 : w1.cell? ⟨w.heap.size, 1, none⟩ = some (.int .i64 0) := (by rw [blk_cell HR.out 1]; rfl); have y1 : w1.frozen? ⟨w.heap.size, 1, none⟩ = false := blk_unfrozen HR.out 1; have z2 : w1.cell? ⟨w.heap.size, 2, none⟩ = some (.int .i64 0) := (by rw [blk_cell HR.out 2]; rfl); have y2 : w1.frozen? ⟨w.heap.size, 2, none⟩ = false := blk_unfrozen HR.out 2; have z3 : w1.cell? ⟨w.heap.size, 3, none⟩ = some (.int .i64 0) := (by rw [blk_cell HR.out 3]; rfl); have y3 : w1.frozen? ⟨w.heap.size, 3, none⟩ = false := blk_unfrozen HR.out 3; have z4 : w1.cell? ⟨w.heap.size, 4, none⟩ = some (.int .i64 0) := (by rw [blk_cell HR.out 4]; rfl); have y4 : w1.frozen? ⟨w.heap.size, 4, none⟩ = false := blk_unfrozen HR.out 4; have z5 : w1.cell? ⟨w.heap.size, 5, none⟩ = some (.int .i64 0) := (by rw [blk_cell HR.out 5]; rfl); have y5 : w1.frozen? ⟨w.heap.size, 5, none⟩ = false := blk_unfrozen HR.out 5; have z6 : w1.cell? ⟨w.heap.size, 6, none⟩ = some (.int .i64 0) := (by rw [blk_cell HR.out 6]; rfl); have y6 : w1.frozen? ⟨w.heap.size, 6, none⟩ = false := blk_unfrozen HR.out 6; have z7 : w1.cell? ⟨w.heap.size, 7, none⟩ = some (.int .i64 0) := (by rw [blk_cell HR.out 7]; rfl); have y7 : w1.frozen? ⟨w.heap.size, 7, none⟩ = false := blk_unfrozen HR.out 7; have z8 : w1.cell? ⟨w.heap.size, 8, none⟩ = some (.int .i64 0) := (by rw [blk_cell HR.out 8]; rfl); have y8 : w1.frozen? ⟨w.heap.size, 8, none⟩ = false := blk_unfrozen HR.out 8; have z9 : w1.cell? ⟨w.heap.size, 9, none⟩ = some (.int .i64 0) := (by rw [blk_cell HR.out 9]; rfl); have y9 : w1.frozen? ⟨w.heap.size, 9, none⟩ = false := blk_unfrozen HR.out 9; have z10 : w1.cell? ⟨w.heap.size, 10, none⟩ = some (.int .i64 0) := (by rw [blk_cell HR.out 10]; rfl); have y10 : w1.frozen? ⟨w.heap.size, 10, none⟩ = false := blk_unfrozen HR.out 10; have z11 : w1.cell? ⟨w.heap.size, 11, none⟩ = some (.int .i64 0) := (by rw [blk_cell HR.out 11]; rfl); have y11 : w1.frozen? ⟨w.heap.size, 11, none⟩ = false := blk_unfrozen HR.out 11)
    | (go_at_call 83; refine (tagsI B g _ _ _ hB (Nat.le_trans hBs (Nat.le_trans hsz HG.out.size)) HC.out HL.out).mono ?_; rintro e w1 ⟨rfl, c1, g1⟩; (try clear z0 y0 z1 y1 z2 y2 z3 y3 z4 y4 z5 y5 z6 y6 z7 y7 z8 y8 z9 y9 z10 y10 z11 y11); have HG' := Hid.mk (gb_then HG.out g1); have HL' := Hid.mk (Nat.le_trans (tl_len 32 _) HL.out); have HR' := Hid.mk (blk_grown HR.out g1 hrg); clear HG HL HC HR; have HG := HG'; have HL := HL'; have HR := HR'; have HC := Hid.mk c1; clear HG' HL' HR' c1 g1; have z0 : w1.cell? ⟨w.heap.size, 0, none⟩ = some (.int .i64 0) := (by rw [blk_cell HR.out 0]; rfl); have y0 : w1.frozen? ⟨w.heap.size, 0, none⟩ = false := blk_unfrozen HR.out 0; have z1 : w1.cell? ⟨w.heap.size, 1, none⟩ = some (.int .i64 0) := (by rw [blk_cell HR.out 1]; rfl); have y1 : w1.frozen? ⟨w.heap.size, 1, none⟩ = false := blk_unfrozen HR.out 1; have z2 : w1.cell? ⟨w.heap.size, 2, none⟩ = some (.int .i64 0) := (by rw [blk_cell HR.out 2]; rfl); have y2 : w1.frozen? ⟨w.heap.size, 2, none⟩ = false := blk_unfrozen HR.out 2; have z3 : w1.cell? ⟨w.heap.size, 3, none⟩ = some (.int .i64 0) := (by rw [blk_cell HR.out 3]; rfl); have y3 : w1.frozen? ⟨w.heap.size, 3, none⟩ = false := blk_unfrozen HR.out 3; have z4 : w1.cell? ⟨w.heap.size, 4, none⟩ = some (.int .i64 0) := (by rw [blk_cell HR.out 4]; rfl); have y4 : w1.frozen? ⟨w.heap.size, 4, none⟩ = false := blk_unfrozen HR.out 4; have z5 : w1.cell? ⟨w.heap.size, 5, none⟩ = some (.int .i64 0) := (by rw [blk_cell HR.out 5]; rfl); have y5 : w1.frozen? ⟨w.heap.size, 5, none⟩ = false := blk_unfrozen HR.out 5; have z6 : w1.cell? ⟨w.heap.size, 6, none⟩ = some (.int .i64 0) := (by rw [blk_cell HR.out 6]; rfl); have y6 : w1.frozen? ⟨w.heap.size, 6, none⟩ = false := blk_unfrozen HR.out 6; have z7 : w1.cell? ⟨w.heap.size, 7, none⟩ = some (.int .i64 0) := (by rw [blk_cell HR.out 7]; rfl); have y7 : w1.frozen? ⟨w.heap.size, 7, none⟩ = false := blk_unfrozen HR.out 7; have z8 : w1.cell? ⟨w.heap.size, 8, none⟩ = some (.int .i64 0) := (by rw [blk_cell HR.out 8]; rfl); have y8 : w1.frozen? ⟨w.heap.size, 8, none⟩ = false := blk_unfrozen HR.out 8; have z9 : w1.cell? ⟨w.heap.size, 9, none⟩ = some (.int .i64 0) := (by rw [blk_cell HR.out 9]; rfl); have y9 : w1.frozen? ⟨w.heap.size, 9, none⟩ = false := blk_unfrozen HR.out 9; have z10 : w1.cell? ⟨w.heap.size, 10, none⟩ = some (.int .i64 0) := (by rw [blk_cell HR.out 10]; rfl); have y10 : w1.frozen? ⟨w.heap.size, 10, none⟩ = false := blk_unfrozen HR.out 10; have z11 : w1.cell? ⟨w.heap.size, 11, none⟩ = some (.int .i64 0) := (by rw [blk_cell HR.out 11]; rfl); have y11 : w1.frozen? ⟨w.heap.size, 11, none⟩ = false := blk_unfrozen HR.out 11)
    | (go_at_call 84; refine (placeI B g _ _ _ hB (Nat.le_trans hBs (Nat.le_trans hsz HG.out.size)) HC.out HL.out).mono ?_; rintro e w1 ⟨rfl, c1, g1⟩; (try clear z0 y0 z1 y1 z2 y2 z3 y3 z4 y4 z5 y5 z6 y6 z7 y7 z8 y8 z9 y9 z10 y10 z11 y11); have HG' := Hid.mk (gb_then HG.out g1); have HL' := Hid.mk (Nat.le_trans (nxt_len _ 5) HL.out); have HR' := Hid.mk (blk_grown HR.out g1 hrg); clear HG HL HC HR; have HG := HG'; have HL := HL'; have HR := HR'; have HC := Hid.mk c1; clear HG' HL' HR' c1 g1; have z0 : w1.cell? ⟨w.heap.size, 0, none⟩ = some (.int .i64 0) := (by rw [blk_cell HR.out 0]; rfl); have y0 : w1.frozen? ⟨w.heap.size, 0, none⟩ = false := blk_unfrozen HR.out 0; have z1 : w1.cell? ⟨w.heap.size, 1, none⟩ = some (.int .i64 0) := (by rw [blk_cell HR.out 1]; rfl); have y1 : w1.frozen? ⟨w.heap.size, 1, none⟩ = false := blk_unfrozen HR.out 1; have z2 : w1.cell? ⟨w.heap.size, 2, none⟩ = some (.int .i64 0) := (by rw [blk_cell HR.out 2]; rfl); have y2 : w1.frozen? ⟨w.heap.size, 2, none⟩ = false := blk_unfrozen HR.out 2; have z3 : w1.cell? ⟨w.heap.size, 3, none⟩ = some (.int .i64 0) := (by rw [blk_cell HR.out 3]; rfl); have y3 : w1.frozen? ⟨w.heap.size, 3, none⟩ = false := blk_unfrozen HR.out 3; have z4 : w1.cell? ⟨w.heap.size, 4, none⟩ = some (.int .i64 0) := (by rw [blk_cell HR.out 4]; rfl); have y4 : w1.frozen? ⟨w.heap.size, 4, none⟩ = false := blk_unfrozen HR.out 4; have z5 : w1.cell? ⟨w.heap.size, 5, none⟩ = some (.int .i64 0) := (by rw [blk_cell HR.out 5]; rfl); have y5 : w1.frozen? ⟨w.heap.size, 5, none⟩ = false := blk_unfrozen HR.out 5; have z6 : w1.cell? ⟨w.heap.size, 6, none⟩ = some (.int .i64 0) := (by rw [blk_cell HR.out 6]; rfl); have y6 : w1.frozen? ⟨w.heap.size, 6, none⟩ = false := blk_unfrozen HR.out 6; have z7 : w1.cell? ⟨w.heap.size, 7, none⟩ = some (.int .i64 0) := (by rw [blk_cell HR.out 7]; rfl); have y7 : w1.frozen? ⟨w.heap.size, 7, none⟩ = false := blk_unfrozen HR.out 7; have z8 : w1.cell? ⟨w.heap.size, 8, none⟩ = some (.int .i64 0) := (by rw [blk_cell HR.out 8]; rfl); have y8 : w1.frozen? ⟨w.heap.size, 8, none⟩ = false := blk_unfrozen HR.out 8; have z9 : w1.cell? ⟨w.heap.size, 9, none⟩ = some (.int .i64 0) := (by rw [blk_cell HR.out 9]; rfl); have y9 : w1.frozen? ⟨w.heap.size, 9, none⟩ = false := blk_unfrozen HR.out 9; have z10 : w1.cell? ⟨w.heap.size, 10, none⟩ = some (.int .i64 0) := (by rw [blk_cell HR.out 10]; rfl); have y10 : w1.frozen? ⟨w.heap.size, 10, none⟩ = false := blk_unfrozen HR.out 10; have z11 : w1.cell? ⟨w.heap.size, 11, none⟩ = some (.int .i64 0) := (by rw [blk_cell HR.out 11]; rfl); have y11 : w1.frozen? ⟨w.heap.size, 11, none⟩ = false := blk_unfrozen HR.out 11))
  have HGG := Hid.mk (gb_then HG0.out HG.out)
  clear HG HG0
  obtain ⟨Z, hZ⟩ : ∃ Z, Z = ((((((((((((w1.setCell ⟨w.heap.size, 0, none⟩ (.int .i64 (numV (fN bs 0)))).setCell ⟨w.heap.size, 1, none⟩ (.int .i64 (tgsV (fN bs 1)))).setCell ⟨w.heap.size, 2, none⟩ (.int .i64 (numV (fN bs 2)))).setCell ⟨w.heap.size, 3, none⟩ (.int .i64 (numV (fN bs 3)))).setCell ⟨w.heap.size, 4, none⟩ (.int .i64 (numV (fN bs 4)))).setCell ⟨w.heap.size, 5, none⟩ (.int .i64 (numV (fN bs 5)))).setCell ⟨w.heap.size, 6, none⟩ (.int .i64 (numV (fN bs 6)))).setCell ⟨w.heap.size, 7, none⟩ (.int .i64 (numV (fN bs 7)))).setCell ⟨w.heap.size, 8, none⟩ (.int .i64 (numV (fN bs 8)))).setCell ⟨w.heap.size, 9, none⟩ (.int .i64 (numV (fN bs 9)))).setCell ⟨w.heap.size, 10, none⟩ (.int .i64 (numV (fN bs 10)))).setCell ⟨w.heap.size, 11, none⟩ (.int .i64 (numV (fN bs 11)))) := ⟨_, rfl⟩
  have C9 : Hid (Cur B g Z (nxt 12 bs) (bads (bads ((bad || !isNum (fN bs 0)) || !isTags (fN bs 1)) (nxt 2 bs) 5) (nxt 7 bs) 5)) := by rw [hZ]; exact (Cur.other (Cur.other (Cur.other (Cur.other (Cur.other (Cur.other (Cur.other (Cur.other (Cur.other (Cur.other (Cur.other (Cur.other HC.out hBs (Nat.ne_of_lt hgl)) hBs (Nat.ne_of_lt hgl)) hBs (Nat.ne_of_lt hgl)) hBs (Nat.ne_of_lt hgl)) hBs (Nat.ne_of_lt hgl)) hBs (Nat.ne_of_lt hgl)) hBs (Nat.ne_of_lt hgl)) hBs (Nat.ne_of_lt hgl)) hBs (Nat.ne_of_lt hgl)) hBs (Nat.ne_of_lt hgl)) hBs (Nat.ne_of_lt hgl)) hBs (Nat.ne_of_lt hgl))
  have G9 : Hid (w.grownBy Z (some g)) := by rw [hZ]; exact (gb_new (gb_new (gb_new (gb_new (gb_new (gb_new (gb_new (gb_new (gb_new (gb_new (gb_new (gb_new HGG.out (Nat.le_refl _)) (Nat.le_refl _)) (Nat.le_refl _)) (Nat.le_refl _)) (Nat.le_refl _)) (Nat.le_refl _)) (Nat.le_refl _)) (Nat.le_refl _)) (Nat.le_refl _)) (Nat.le_refl _)) (Nat.le_refl _)) (Nat.le_refl _))
  have R9 : Hid (Z.heap[w.heap.size]? = some (.cells #[.int .i64 (numV (fN bs 0)), .int .i64 (tgsV (fN bs 1)), .int .i64 (numV (fN bs 2)), .int .i64 (numV (fN bs 3)), .int .i64 (numV (fN bs 4)), .int .i64 (numV (fN bs 5)), .int .i64 (numV (fN bs 6)), .int .i64 (numV (fN bs 7)), .int .i64 (numV (fN bs 8)), .int .i64 (numV (fN bs 9)), .int .i64 (numV (fN bs 10)), .int .i64 (numV (fN bs 11))] 48)) := by
    rw [hZ]
    have b0 := blk_set HR.out 0 (.int .i64 (numV (fN bs 0)))
    simp only [List.setIfInBounds_toArray, List.set_cons_zero, List.set_cons_succ] at b0
    have b1 := blk_set b0 1 (.int .i64 (tgsV (fN bs 1)))
    simp only [List.setIfInBounds_toArray, List.set_cons_zero, List.set_cons_succ] at b1
    have b2 := blk_set b1 2 (.int .i64 (numV (fN bs 2)))
    simp only [List.setIfInBounds_toArray, List.set_cons_zero, List.set_cons_succ] at b2
    have b3 := blk_set b2 3 (.int .i64 (numV (fN bs 3)))
    simp only [List.setIfInBounds_toArray, List.set_cons_zero, List.set_cons_succ] at b3
    have b4 := blk_set b3 4 (.int .i64 (numV (fN bs 4)))
    simp only [List.setIfInBounds_toArray, List.set_cons_zero, List.set_cons_succ] at b4
    have b5 := blk_set b4 5 (.int .i64 (numV (fN bs 5)))
    simp only [List.setIfInBounds_toArray, List.set_cons_zero, List.set_cons_succ] at b5
    have b6 := blk_set b5 6 (.int .i64 (numV (fN bs 6)))
    simp only [List.setIfInBounds_toArray, List.set_cons_zero, List.set_cons_succ] at b6
    have b7 := blk_set b6 7 (.int .i64 (numV (fN bs 7)))
    simp only [List.setIfInBounds_toArray, List.set_cons_zero, List.set_cons_succ] at b7
    have b8 := blk_set b7 8 (.int .i64 (numV (fN bs 8)))
    simp only [List.setIfInBounds_toArray, List.set_cons_zero, List.set_cons_succ] at b8
    have b9 := blk_set b8 9 (.int .i64 (numV (fN bs 9)))
    simp only [List.setIfInBounds_toArray, List.set_cons_zero, List.set_cons_succ] at b9
    have b10 := blk_set b9 10 (.int .i64 (numV (fN bs 10)))
    simp only [List.setIfInBounds_toArray, List.set_cons_zero, List.set_cons_succ] at b10
    have b11 := blk_set b10 11 (.int .i64 (numV (fN bs 11)))
    simp only [List.setIfInBounds_toArray, List.set_cons_zero, List.set_cons_succ] at b11
    exact b11
  simp only [fN, nxt] at hZ C9 R9 ⊢
  rw [← hZ]
  clear hZ z0 y0 z1 y1 z2 y2 z3 y3 z4 y4 z5 y5 z6 y6 z7 y7 z8 y8 z9 y9 z10 y10 z11 y11 HR HC
  have r0 := (blk_cell R9.out 0).trans rfl
  have r1 := (blk_cell R9.out 1).trans rfl
  have r2 := (blk_cell R9.out 2).trans rfl
  have r3 := (blk_cell R9.out 3).trans rfl
  have r4 := (blk_cell R9.out 4).trans rfl
  have r5 := (blk_cell R9.out 5).trans rfl
  have r6 := (blk_cell R9.out 6).trans rfl
  have r7 := (blk_cell R9.out 7).trans rfl
  have r8 := (blk_cell R9.out 8).trans rfl
  have r9 := (blk_cell R9.out 9).trans rfl
  have r10 := (blk_cell R9.out 10).trans rfl
  have r11 := (blk_cell R9.out 11).trans rfl
  refine bodyPost_ret (by simp [results, Tryz.results71, go_sem, r0, r1, r2, r3, r4, r5, r6, r7, r8, r9, r10, r11]; try rfl) rfl ?_
  exact ⟨rfl, C9.out, G9.out⟩

set_option maxHeartbeats 1600000 in
set_option maxRecDepth 1000000 in
theorem roadI (B g : Nat) (bs : List UInt8) (bad : Bool) (w : World) (hB : B ≤ g) (hBs : B ≤ w.heap.size) (h : Cur B g w bs bad) (hl : bs.length ≤ 1000000) :
    Calls Tryz.prog 72 #[.pointer (some ⟨g, 0, none⟩)] w fun e w' => e = .returned (.agg #[.int .i64 (numV (fN bs 0)), .int .i64 (numV (fN bs 1)), .int .i64 (numV (fN bs 2))]) ∧ Cur B g w' (nxt 3 bs) (((bad || !isNum (fN bs 0)) || !isNum (fN bs 1)) || !isNum (fN bs 2)) ∧ w.grownBy w' (some g) := by
  have hgl := h.lt
  have hrg : w.heap.size ≠ g := Nat.ne_of_gt hgl
  obtain ⟨W, hW⟩ : ∃ W, W = w.alloc (.cells #[.int .i64 0, .int .i64 0, .int .i64 0] 51) := ⟨_, rfl⟩
  have HA : Hid (Below w.heap.size w W) := by rw [hW]; exact below_alloc' (Below.refl _ _) _
  have HR : Hid (W.heap[w.heap.size]? = some (.cells #[.int .i64 0, .int .i64 0, .int .i64 0] 51)) := by rw [hW]; exact blk_new _ _
  have hsz : w.heap.size ≤ W.heap.size := HA.out.size
  have HC := Hid.mk (h.keep hBs HA.out)
  have HG : Hid (W.grownBy W (some g)) := World.grownBy.refl _ _
  have HG0 : Hid (w.grownBy W (some g)) := gb_below HA.out
  have HL := Hid.mk hl
  clear h hl
  go_enter Tryz.func72, Tryz.ntmps72
  go_wp2_with fail
  rw [← hW]
  clear hW
  go_wp2_with (first
    | (go_at_call 82; refine (numberI B g _ _ _ hB (Nat.le_trans hBs (Nat.le_trans hsz HG.out.size)) HC.out HL.out).mono ?_; rintro e w1 ⟨rfl, c1, g1⟩; (try clear z0 y0 z1 y1 z2 y2); have HG' := Hid.mk (gb_then HG.out g1); have HL' := Hid.mk (Nat.le_trans (tl_len 32 _) HL.out); have HR' := Hid.mk (blk_grown HR.out g1 hrg); clear HG HL HC HR; have HG := HG'; have HL := HL'; have HR := HR'; have HC := Hid.mk c1; clear HG' HL' HR' c1 g1; have z0 : w1.cell? ⟨w.heap.size, 0, none⟩ = some (.int .i64 0) := (by rw [blk_cell HR.out 0]; rfl); have y0 : w1.frozen? ⟨w.heap.size, 0, none⟩ = false := blk_unfrozen HR.out 0; have z1 : w1.cell? ⟨w.heap.size, 1, none⟩ = some (.int .i64 0) := (by rw [blk_cell HR.out 1]; rfl); have y1 : w1.frozen? ⟨w.heap.size, 1, none⟩ = false := blk_unfrozen HR.out 1; have z2 : w1.cell? ⟨w.heap.size, 2, none⟩ = some (.int .i64 0) := (by rw [blk_cell HR.out 2]; rfl); have y2 : w1.frozen? ⟨w.heap.size, 2, none⟩ = false := blk_unfrozen HR.out 2))
  have HGG := Hid.mk (gb_then HG0.out HG.out)
  clear HG HG0
  obtain ⟨Z, hZ⟩ : ∃ Z, Z = (((w1.setCell ⟨w.heap.size, 0, none⟩ (.int .i64 (numV (fN bs 0)))).setCell ⟨w.heap.size, 1, none⟩ (.int .i64 (numV (fN bs 1)))).setCell ⟨w.heap.size, 2, none⟩ (.int .i64 (numV (fN bs 2)))) := ⟨_, rfl⟩
  have C9 : Hid (Cur B g Z (nxt 3 bs) (((bad || !isNum (fN bs 0)) || !isNum (fN bs 1)) || !isNum (fN bs 2))) := by rw [hZ]; exact (Cur.other (Cur.other (Cur.other HC.out hBs (Nat.ne_of_lt hgl)) hBs (Nat.ne_of_lt hgl)) hBs (Nat.ne_of_lt hgl))
  have G9 : Hid (w.grownBy Z (some g)) := by rw [hZ]; exact (gb_new (gb_new (gb_new HGG.out (Nat.le_refl _)) (Nat.le_refl _)) (Nat.le_refl _))
  have R9 : Hid (Z.heap[w.heap.size]? = some (.cells #[.int .i64 (numV (fN bs 0)), .int .i64 (numV (fN bs 1)), .int .i64 (numV (fN bs 2))] 51)) := by
    rw [hZ]
    have b0 := blk_set HR.out 0 (.int .i64 (numV (fN bs 0)))
    simp only [List.setIfInBounds_toArray, List.set_cons_zero, List.set_cons_succ] at b0
    have b1 := blk_set b0 1 (.int .i64 (numV (fN bs 1)))
    simp only [List.setIfInBounds_toArray, List.set_cons_zero, List.set_cons_succ] at b1
    have b2 := blk_set b1 2 (.int .i64 (numV (fN bs 2)))
    simp only [List.setIfInBounds_toArray, List.set_cons_zero, List.set_cons_succ] at b2
    exact b2
  simp only [fN, nxt] at hZ C9 R9 ⊢
  rw [← hZ]
  clear hZ z0 y0 z1 y1 z2 y2 HR HC
  have r0 := (blk_cell R9.out 0).trans rfl
  have r1 := (blk_cell R9.out 1).trans rfl
  have r2 := (blk_cell R9.out 2).trans rfl
  refine bodyPost_ret (by simp [results, Tryz.results72, go_sem, r0, r1, r2]; try rfl) rfl ?_
  exact ⟨rfl, C9.out, G9.out⟩

end Go.Proofs.YtefkdpppcjlflaaGreatDoor.Parse
