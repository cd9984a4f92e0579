import Derived.Test.YtdhnjkcebaahcaaGreatDoorCutI
import Derived.Lib.BufferWrite
namespace Go.Proofs.YtdhnjkcebaahcaaGreatDoor.Parse
open Go Go.RowKit Go.Proofs.YtdhnjkcebaahcaaGreatDoor.Mem
set_option linter.unusedVariables false
set_option linter.unusedSimpArgs false
attribute [local go_sem ↓] Go.wp_at_zero Go.wp_at_succ

/-- One block at most turns. -/
theorem gb_then {a b c : World} {r : Option Nat} (h : a.grownBy b r) (k : b.grownBy c r) : a.grownBy c r :=
  ⟨k.os.trans h.os, k.tape.trans h.tape, k.output.trans h.output, Nat.le_trans h.size k.size, fun i hi hr => (k.block i (by have := h.size; omega) hr).trans (h.block i hi hr)⟩
theorem gb_below {a b : World} {r : Option Nat} (h : Below a.heap.size a b) : a.grownBy b r := ⟨h.os, h.tape, h.output, h.size, fun i hi _ => h.block i hi⟩
theorem gb_set (w : World) (g i : Nat) (v : Value) : w.grownBy (w.setCell ⟨g, i, none⟩ v) (some g) := Lib.grownBy_setCell w g i v

/-- A line's failure as a value. -/
def errV (c : Int) : Value := .iface 48 (.agg #[.int .i64 c])
def evOf (bad : Bool) : Value := if bad then errV 6 else .nilIface
/-- The cursor at block g: what is left of its line, and whether a field was of a wrong form. -/
def Cur (B g : Nat) (w : World) (bs : List UInt8) (bad : Bool) : Prop := ∃ v, w.heap[g]? = some (.cells #[v, evOf bad] 72) ∧ Txt B w v bs
theorem below_of_grown {B g : Nat} {w w' : World} (h : w.grownBy w' (some g)) (hB : B ≤ g) (hs : B ≤ w.heap.size) : Below B w w' :=
  ⟨h.os, h.tape, h.output, h.size, fun k hk => h.block k (by omega) (by simp; omega)⟩
theorem Txt.set {B g : Nat} {w : World} {v : Value} {bs : List UInt8} (h : Txt B w v bs) (hB : B ≤ g) (i : Nat) (u : Value) : Txt B (w.setCell ⟨g, i, none⟩ u) v bs := h.below ((Below.refl _ _).setCell (p := ⟨g, i, none⟩) hB u)
theorem Txt.shape {B : Nat} {w : World} {v : Value} {bs : List UInt8} (h : Txt B w v bs) : ∃ p n c, v = .slice p n c := by
  obtain ⟨p, c, e, -⟩ := h
  exact ⟨p, _, c, e⟩
theorem Cur.lt {B g : Nat} {w : World} {bs : List UInt8} {bad : Bool} (h : Cur B g w bs bad) : g < w.heap.size := by
  obtain ⟨v, hx, -⟩ := h
  exact blk_lt hx
theorem Cur.keep {B g : Nat} {w w' : World} {bs : List UInt8} {bad : Bool} (h : Cur B g w bs bad) (hB : B ≤ w.heap.size) (hb : Below w.heap.size w w') : Cur B g w' bs bad := by
  obtain ⟨v, hx, ht⟩ := h
  exact ⟨v, blk_below hx hb, ht.below (hb.mono hB)⟩
theorem cur_step {B g : Nat} {w w1 : World} {v v2 ev : Value} {r : List UInt8} {bad : Bool} (hx : w.heap[g]? = some (.cells #[v, evOf bad] 72)) (hb : Below w.heap.size w w1) (ht : Txt B w1 v2 r) (hB : B ≤ g) :
    Cur B g (w1.setCell ⟨g, 0, none⟩ v2) r bad ∧ w.grownBy (w1.setCell ⟨g, 0, none⟩ v2) (some g) :=
  ⟨⟨v2, by have := blk_set (blk_below hx hb) 0 v2; simpa using this, ht.set hB 0 v2⟩, gb_then (gb_below hb) (gb_set _ _ _ _)⟩

set_option maxHeartbeats 1600000 in
set_option maxRecDepth 1000000 in
theorem fieldI (B g : Nat) (bs : List UInt8) (bad : Bool) (w : World) (hB : B ≤ g) (h : Cur B g w bs bad) (hl : bs.length ≤ 1000000) :
    Calls Tryz.prog 51 #[.pointer (some ⟨g, 0, none⟩)] w fun e w' => (∃ v1, e = .returned v1 ∧ Txt B w' v1 (hd 32 bs)) ∧ Cur B g w' (tl 32 bs) bad ∧ w.grownBy w' (some g) := by
  obtain ⟨v, hx, ht⟩ := h
  have hgl := blk_lt hx
  have x0 : w.cell? ⟨g, 0, none⟩ = some v := by rw [blk_cell hx 0]; rfl
  have HX := Hid.mk hx
  have HT : Hid (Txt B (w.alloc (.cells #[.int .u8 32] 5)) v bs) := ht.below ((Below.refl _ _).alloc (by omega) _)
  have HC := Hid.mk (cutI B v bs 32 32 w.heap.size 1 (w.alloc (.cells #[.int .u8 32] 5)) HT.out rfl (by simp) hl)
  have HA : Hid (Below w.heap.size w (w.alloc (.cells #[.int .u8 32] 5))) := (Below.refl _ _).alloc (Nat.le_refl _) _
  clear hx ht
  go_enter Tryz.func51, Tryz.ntmps51
  go_wp2_with (go_at_call 30; refine HC.out.mono ?_; rintro e w1 ⟨⟨v1, v2, rfl, t1, t2⟩, hw⟩; obtain ⟨p2, n2, c2, rfl⟩ := t2.shape; have T1 := Hid.mk t1; have T2 := Hid.mk t2; have HW : Hid (Below w.heap.size w w1) := (by obtain ⟨q, rfl⟩ := hw; exact below_drewN' HA.out q); clear hw t1 t2; have y0 : w1.cell? ⟨g, 0, none⟩ = some v := cell_keep HW.out x0; have f0 : w1.frozen? ⟨g, 0, none⟩ = false := blk_unfrozen (blk_below HX.out HW.out) 0; clear x0)
  go_ret
  obtain ⟨c1, c2⟩ := cur_step HX.out HW.out T2.out hB (ev := v)
  exact ⟨⟨_, rfl, T1.out.set hB 0 _⟩, c1, c2⟩

set_option maxHeartbeats 1600000 in
set_option maxRecDepth 1000000 in
theorem countFI (B g : Nat) (bs : List UInt8) (bad : Bool) (w : World) (hB : B ≤ g) (h : Cur B g w bs bad) (hl : bs.length ≤ 1000000) :
    Calls Tryz.prog 49 #[.pointer (some ⟨g, 0, none⟩)] w fun e w' => e = .returned (.int .i64 ((split 32 bs).length : Nat)) ∧ Below w.heap.size w w' := by
  obtain ⟨v, hx, ht⟩ := h
  have hgl := blk_lt hx
  have x0 : w.cell? ⟨g, 0, none⟩ = some v := by rw [blk_cell hx 0]; rfl
  have HT : Hid (Txt B (w.alloc (.cells #[.int .u8 32] 5)) v bs) := ht.below ((Below.refl _ _).alloc (by omega) _)
  have HC := Hid.mk (countI B v bs 32 32 w.heap.size 1 (w.alloc (.cells #[.int .u8 32] 5)) HT.out rfl (by simp))
  have HN : Hid ((split 32 bs).length = bs.count 32 + 1) := split_count 32 bs
  have hc : bs.count 32 ≤ bs.length := List.count_le_length
  obtain ⟨m, hm⟩ : ∃ m, m = bs.count 32 := ⟨_, rfl⟩
  rw [← hm] at HC HN hc
  have w1 : IntKind.i64.wrap ((m : Int) + 1) = (m : Int) + 1 := by rw [IntKind.wrap_i64]; omega
  clear hx ht hm
  go_enter Tryz.func49, Tryz.ntmps49
  go_wp2_with (go_at_call 66; refine HC.out.mono ?_; rintro e w1 ⟨rfl, rfl⟩)
  go_ret
  rw [HN.out]
  exact ⟨by simp, by go_grown⟩

set_option maxHeartbeats 1600000 in
set_option maxRecDepth 1000000 in
theorem failI (B g : Nat) (bs : List UInt8) (bad : Bool) (w : World) (hB : B ≤ g) (h : Cur B g w bs bad) :
    Calls Tryz.prog 90 #[.pointer (some ⟨g, 0, none⟩)] w fun e w' => e = .returned (.int .i64 0) ∧ Cur B g w' bs true ∧ w.grownBy w' (some g) := by
  obtain ⟨v, hx, ht⟩ := h
  have x1 : w.cell? ⟨g, 1, none⟩ = some (evOf bad) := by rw [blk_cell hx 1]; rfl
  have f1 : w.frozen? ⟨g, 1, none⟩ = false := blk_unfrozen hx 1
  cases bad with
  | true =>
    have x1' : w.cell? ⟨g, 1, none⟩ = some (.iface 48 (.agg #[.int .i64 6])) := x1
    have HX := Hid.mk hx
    have HT := Hid.mk ht
    clear hx ht x1
    go_enter Tryz.func90, Tryz.ntmps90
    go_wp2
    go_ret
    exact ⟨rfl, ⟨v, HX.out, HT.out⟩, World.grownBy.refl _ _⟩
  | false =>
    have x1' : w.cell? ⟨g, 1, none⟩ = some .nilIface := x1
    have HX := Hid.mk hx
    have HT := Hid.mk ht
    clear hx ht x1
    go_enter Tryz.func90, Tryz.ntmps90
    go_wp2
    go_ret
    exact ⟨rfl, ⟨v, blk_set HX.out 1 (errV 6), HT.out.set hB 1 _⟩, gb_set _ _ _ _⟩
end Go.Proofs.YtdhnjkcebaahcaaGreatDoor.Parse
