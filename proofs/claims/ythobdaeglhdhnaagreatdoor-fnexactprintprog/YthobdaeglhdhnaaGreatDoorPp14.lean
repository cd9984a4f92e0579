import Derived.Test.YthobdaeglhdhnaaGreatDoorPp13
namespace Go.Proofs.YthobdaeglhdhnaaGreatDoor.Syn
open Go Go.RowKit Go.Proofs.YthobdaeglhdhnaaGreatDoor.Mem
set_option linter.unusedVariables false
set_option linter.unusedSimpArgs false
attribute [local go_sem ↓] Go.wp_at_zero Go.wp_at_succ

theorem infoU8 : (Tryz.prog.info? 5).map (fun i => (i.zero, i.size, i.bytes)) = some (some (.int .u8 0), 1, 1) := by kernel_rfl
theorem infoSl : (Tryz.prog.info? 26).map (fun i => (i.zero, i.size, i.bytes)) = some (some (.slice none 0 0), 1, 24) := by kernel_rfl
theorem infoVl : (Tryz.prog.info? 73).map (fun i => (i.zero, i.size, i.bytes)) = some (some (.agg #[.int .i64 0, .int .i64 0, .slice none 0 0]), 3, 40) := by kernel_rfl
/-- A constant's row, marked in whatever world in which it lies. -/
theorem run_conv {P : Program} (w : World) (t e : TypeId) (g : Nat) (C : Array Value) (fr : Nat × Nat) (n c : Nat) (ht : P.underlying t = some (.slice e)) (he : P.underlying e = some (.int .u8)) (hb : w.heap[g]? = some (.cells C e fr)) :
    (convert t t (.slice (some ⟨g, 0, none⟩) n c)).run P w = .ok (.slice (some ⟨g, 0, none⟩) n c) (w.freeze ⟨g, C.size, none⟩ 1) := by
  have hsh : w.shape? g = some (e, C.size) := by
    unfold World.shape?
    rw [hb]
  simp [convert, run_underlying ht, run_underlying he, markStringish, hsh]
theorem blk_freeze {w : World} {g : Nat} {C : Array Value} {e : TypeId} {fr : Nat × Nat} (hb : w.heap[g]? = some (.cells C e fr)) (p : Addr) (n : Nat) : ∃ fr', (w.freeze p n).heap[g]? = some (.cells C e fr') := by
  unfold World.freeze
  split
  · exact ⟨fr, hb⟩
  · simp only [Array.getElem?_modify]
    split
    · rw [hb]; exact ⟨_, rfl⟩
    · exact ⟨fr, hb⟩
theorem cell_freeze {w : World} {a : Addr} {v : Value} (h : w.cell? a = some v) (p : Addr) (n : Nat) : (w.freeze p n).cell? a = some v := by
  have hs := h
  unfold World.cell? at h ⊢
  cases hb : w.heap[a.block]? with
  | none => rw [hb] at h; simp at h
  | some o =>
    cases o with
    | cells C e fr =>
      obtain ⟨fr', h'⟩ := blk_freeze hb p n
      rw [hb] at h
      rw [h']
      exact h
    | _ => rw [hb] at h; simp at h
theorem size_freeze (w : World) (p : Addr) (n : Nat) : (w.freeze p n).heap.size = w.heap.size := by
  unfold World.freeze
  split <;> simp
theorem below_freeze {B : Nat} {a w : World} (h : Below B a w) (g k n : Nat) (hg : B ≤ g) : Below B a (w.freeze ⟨g, k, none⟩ n) := by
  have hblk : ∀ i, i < B → (w.freeze ⟨g, k, none⟩ n).heap[i]? = w.heap[i]? := fun i hi => by
    unfold World.freeze
    split
    · rfl
    · simp only [Array.getElem?_modify]
      rw [if_neg (by show ¬ g = i; omega)]
  have ho : (w.freeze ⟨g, k, none⟩ n).os = w.os ∧ (w.freeze ⟨g, k, none⟩ n).tape = w.tape ∧ (w.freeze ⟨g, k, none⟩ n).output = w.output := by
    unfold World.freeze; split <;> exact ⟨rfl, rfl, rfl⟩
  exact ⟨ho.1.trans h.os, ho.2.1.trans h.tape, ho.2.2.trans h.output, by rw [size_freeze]; exact h.size, fun i hi => (hblk i hi).trans (h.block i hi)⟩
/-- Cells that can be read through a slice. -/
def RdC (w : World) (a : Option Addr) (xs : List Value) : Prop := (a = none ∧ xs = []) ∨ ∃ g off, a = some ⟨g, off, none⟩ ∧ ∀ j u, xs[j]? = some u → w.cell? ⟨g, off + j, none⟩ = some u
theorem RdC.below {w w' : World} {a : Option Addr} {xs : List Value} (h : RdC w a xs) (hb : Below w.heap.size w w') : RdC w' a xs := by
  rcases h with h | ⟨g, off, ha, h⟩
  · exact Or.inl h
  · exact Or.inr ⟨g, off, ha, fun j u hu => cell_keep hb (h j u hu)⟩

set_option maxHeartbeats 1600000 in
set_option maxRecDepth 100000 in
theorem catS (a b : Option Addr) (n m c d : Nat) (xs ys : List Value) (w : World) (hn : n = xs.length) (hm : m = ys.length) (ha : RdC w a xs) (hb : RdC w b ys) (h1 : ∀ u ∈ xs, u.oneCell' = true) (h2 : ∀ u ∈ ys, u.oneCell' = true) (b1 : n ≤ 10000000000) (b2 : m ≤ 10000000000) (ha0 : a = none → c = 0) (hb0 : b = none → d = 0) :
    Calls Tryz.prog 77 #[.slice a n c, .slice b m d] w fun e w' => ∃ v, e = .returned v ∧ w'.ownsRow w.heap.size 5 1 v (n + m) (xs ++ ys) ∧ Below w.heap.size w w' := by
  obtain ⟨i0, hi, hz0, hz1, hz2⟩ := info_parts infoU8
  have HA := Hid.mk ha
  have HB := Hid.mk hb
  have HN := Hid.mk hn
  have HM := Hid.mk hm
  clear ha hb hn hm
  have hrow : Hid ((w.alloc (.cells #[] 5)).ownsRow w.heap.size 5 1 (.slice (some ⟨w.heap.size, 0, none⟩) 0 0) 0 []) := World.ownsRow_made w #[] 0 (Nat.le_refl _) (by unfold maxLen; omega) (by simp)
  rcases HA.out with ⟨rfl, hx⟩ | ⟨g, off, rfl, hx⟩
  · obtain rfl : n = 0 := by rw [HN.out, hx]; rfl
    obtain rfl := ha0 rfl
    subst hx
    have B1 : Hid (Below w.heap.size w (w.alloc (.cells #[] 5))) := (Below.refl _ _).alloc (Nat.le_refl _) _
    rcases HB.out with ⟨rfl, hy⟩ | ⟨g', off', rfl, hy⟩
    · obtain rfl : m = 0 := by rw [HM.out, hy]; rfl
      obtain rfl := hb0 rfl
      subst hy
      clear hb0 ha0
      go_enter Tryz.func77, Tryz.ntmps77
      go_wp2_with (at_builtin; refine wpList_append_own_none rfl _ _ 26 rfl w.heap.size 5 i0 1 Tryz.underlying26 hi _ _ _ rfl hrow.out rfl ?_)
      go_ret
      exact ⟨_, rfl, hrow.out, B1.out⟩
    · clear hb0 ha0
      go_enter Tryz.func77, Tryz.ntmps77
      go_wp2_with (first | (at_builtin; refine wpList_append_own_none rfl _ _ 26 rfl w.heap.size 5 i0 1 Tryz.underlying26 hi _ _ _ rfl hrow.out rfl ?_) | (at_builtin; refine wpList_append_own _ rfl _ _ 26 rfl w.heap.size 5 i0 (.int .u8 0) 1 1 Tryz.underlying26 hi hz0 hz1 hz2 rfl (by decide) _ _ _ rfl hrow.out ⟨g', off', none⟩ m d ys rfl (by rw [HM.out]; simp) (fun j u hu => by rw [Addr.add_mid]; exact cell_keep B1.out (hy j u hu)) h2 (by unfold maxLen; omega) (by omega) B1.out.size ?_))
      intro v2 w2 hown hgrow _
      have O2 := Hid.mk hown
      have B2 : Hid (Below w.heap.size w w2) := B1.out.grown hgrow B1.out.size (fun j hj => (hrow.out.lt j hj).1)
      clear hown hgrow hrow B1
      refine Hid.out ?_
      refine Lib.hid ?_
      go_wp2
      go_ret
      exact ⟨_, rfl, by simpa using O2.out, B2.out⟩
  · rcases HB.out with ⟨rfl, hy⟩ | ⟨g', off', rfl, hy⟩
    · obtain rfl : m = 0 := by rw [HM.out, hy]; rfl
      obtain rfl := hb0 rfl
      clear hb0 ha0
      go_enter Tryz.func77, Tryz.ntmps77
      go_wp2_with (at_builtin; refine wpList_append_own _ rfl _ _ 26 rfl w.heap.size 5 i0 (.int .u8 0) 1 1 Tryz.underlying26 hi hz0 hz1 hz2 rfl (by decide) _ _ _ rfl hrow.out ⟨g, off, none⟩ n c xs rfl (by rw [HN.out]; simp) (fun j u hu => by rw [Addr.add_mid]; exact cell_keep (by go_grown) (hx j u hu)) h1 (by unfold maxLen; omega) (by omega) (by simp) ?_)
      intro v1 w1 hown hgrow _
      have O1 := Hid.mk hown
      have B1 : Hid (Below w.heap.size w w1) := ((Below.refl _ _).alloc (Nat.le_refl _) _).grown hgrow (by simp) (fun j hj => (hrow.out.lt j hj).1)
      clear hown hgrow hrow
      refine Hid.out ?_
      refine Lib.hid ?_
      go_wp2_with (at_builtin; refine wpList_append_own_none rfl _ _ 26 rfl w.heap.size 5 i0 1 Tryz.underlying26 hi _ _ _ rfl O1.out rfl ?_)
      go_ret
      exact ⟨_, rfl, by simpa [hy] using O1.out, B1.out⟩
    · clear hb0 ha0
      go_enter Tryz.func77, Tryz.ntmps77
      go_wp2_with (at_builtin; refine wpList_append_own _ rfl _ _ 26 rfl w.heap.size 5 i0 (.int .u8 0) 1 1 Tryz.underlying26 hi hz0 hz1 hz2 rfl (by decide) _ _ _ rfl hrow.out ⟨g, off, none⟩ n c xs rfl (by rw [HN.out]; simp) (fun j u hu => by rw [Addr.add_mid]; exact cell_keep (by go_grown) (hx j u hu)) h1 (by unfold maxLen; omega) (by omega) (by simp) ?_)
      intro v1 w1 hown hgrow _
      have O1 := Hid.mk hown
      have B1 : Hid (Below w.heap.size w w1) := ((Below.refl _ _).alloc (Nat.le_refl _) _).grown hgrow (by simp) (fun j hj => (hrow.out.lt j hj).1)
      clear hown hgrow hrow
      refine Hid.out ?_
      refine Lib.hid ?_
      go_wp2_with (at_builtin; refine wpList_append_own _ rfl _ _ 26 rfl w.heap.size 5 i0 (.int .u8 0) 1 1 Tryz.underlying26 hi hz0 hz1 hz2 rfl (by decide) _ _ _ rfl O1.out ⟨g', off', none⟩ m d ys rfl (by rw [HM.out]; simp) (fun j u hu => by rw [Addr.add_mid]; exact cell_keep B1.out (hy j u hu)) h2 (by unfold maxLen; omega) (by omega) B1.out.size ?_)
      intro v2 w2 hown hgrow _
      have O2 := Hid.mk hown
      have B2 : Hid (Below w.heap.size w w2) := B1.out.grown hgrow B1.out.size (fun j hj => (O1.out.lt j hj).1)
      clear hown hgrow O1 B1
      refine Hid.out ?_
      refine Lib.hid ?_
      go_wp2
      go_ret
      exact ⟨_, rfl, O2.out, B2.out⟩
end Go.Proofs.YthobdaeglhdhnaaGreatDoor.Syn
