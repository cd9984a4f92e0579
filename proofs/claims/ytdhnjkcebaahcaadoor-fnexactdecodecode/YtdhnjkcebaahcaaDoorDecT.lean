import Derived.Test.YtdhnjkcebaahcaaDoorDecM
import Derived.Test.YtdhnjkcebaahcaaDoorKit
import Derived.Deep.DrawnRows
namespace Go.Proofs.YtdhnjkcebaahcaaDoor.Dec
open Go Go.RowKit Go.Proofs.YtdhnjkcebaahcaaDoor.Mem Go.Proofs.YtdhnjkcebaahcaaDoor.ValC Go.Proofs.YtdhnjkcebaahcaaDoor.Enc
set_option linter.unusedVariables false
set_option linter.unusedSimpArgs false
attribute [local go_sem ↓] Go.wp_at_zero Go.wp_at_succ

/-- A row that may be written, from block B on; a row that bears marks from k on; what a mark leaves as it was. -/
def Rw (B : Nat) (w : World) (T : TypeId) (sz : Nat) (v : Value) (n : Nat) : Prop := ∃ a c, v = .slice a n c ∧ (n = 0 ∨ ∃ g C, B ≤ g ∧ a = some ⟨g, 0, none⟩ ∧ w.heap[g]? = some (.cells C T) ∧ n * sz ≤ C.size)
def MB (w : World) (g : Nat) (T : TypeId) (N m : Nat) (k : Int) : Prop := ∃ C, w.heap[g]? = some (.cells C T) ∧ N ≤ C.size ∧ ∀ x, x < m → C[x]? = some (.int .i64 (k + (x : Int)))
def Mk (w : World) (T : TypeId) (sz : Nat) (v : Value) (n : Nat) (k : Int) : Prop := ∃ a c, v = .slice a n c ∧ (n = 0 ∨ ∃ g, a = some ⟨g, 0, none⟩ ∧ MB w g T (n * sz) (n * sz) k)
theorem row_rw {B n sz : Nat} {w : World} {T : TypeId} {v : Value} {xs : List Value} (h : w.ownsRow B T sz v n xs) : Rw B w T sz v n := by
  rcases h.2 with ⟨rfl, h0⟩ | ⟨g, cap, cur, rfl, hg, hblk, hcap, -, hs, -⟩
  · exact ⟨none, 0, by rw [h0], Or.inl h0⟩
  · exact ⟨_, _, rfl, Or.inr ⟨g, cur, hg, rfl, hblk, by rw [hs]; exact Nat.mul_le_mul_right _ hcap⟩⟩
theorem Rw.below {B n sz : Nat} {w w' : World} {T : TypeId} {v : Value} (h : Rw B w T sz v n) (hb : Below w.heap.size w w') : Rw B w' T sz v n := by
  obtain ⟨a, c, e, h⟩ := h
  refine ⟨a, c, e, ?_⟩
  rcases h with h | ⟨g, C, h1, h2, h3, h4⟩
  · exact Or.inl h
  · exact Or.inr ⟨g, C, h1, h2, blk_below h3 hb, h4⟩
theorem Mk.below {n sz : Nat} {w w' : World} {T : TypeId} {v : Value} {k : Int} (h : Mk w T sz v n k) (hb : Below w.heap.size w w') : Mk w' T sz v n k := by
  obtain ⟨a, c, e, h⟩ := h
  refine ⟨a, c, e, ?_⟩
  rcases h with h | ⟨g, h1, C, h2, h3⟩
  · exact Or.inl h
  · exact Or.inr ⟨g, h1, C, blk_below h2 hb, h3⟩
theorem mkstep {w : World} {g N m : Nat} {T : TypeId} {k : Int} {v : Value} (h : MB w g T N m k) (hm : m < N) (hv : v = .int .i64 (k + (m : Int))) : MB (w.setCell ⟨g, m, none⟩ v) g T N (m + 1) k := by
  obtain ⟨C, h1, h2, h3⟩ := h
  refine ⟨_, blk_set h1 m v, by simpa using h2, fun x hx => ?_⟩
  rw [Array.getElem?_setIfInBounds]
  by_cases e : m = x
  · subst e
    rw [if_pos rfl, if_pos (by omega), hv]
  · rw [if_neg e]
    exact h3 x (by omega)
theorem MB.cell {w : World} {g N m : Nat} {T : TypeId} {k : Int} (h : MB w g T N m k) (x : Nat) (hx : x < N) : (∃ v, w.cell? ⟨g, x, none⟩ = some v) ∧ w.frozen? ⟨g, x, none⟩ = false := by
  obtain ⟨C, h1, h2, h3⟩ := h
  exact ⟨⟨C[x], by rw [blk_cell h1 x]; exact Array.getElem?_eq_getElem (by omega)⟩, blk_unfrozen h1 x⟩
theorem MB.val {w : World} {g N m : Nat} {T : TypeId} {k : Int} (h : MB w g T N m k) (x : Nat) (hx : x < m) {z : Int} (hz : z = k + (x : Int)) : w.cell? ⟨g, x, none⟩ = some (.int .i64 z) := by
  obtain ⟨C, h1, h2, h3⟩ := h
  rw [blk_cell h1 x, hz]; exact h3 x hx
theorem gset (w : World) (b o : Nat) (u : Value) : w.grownBy (w.setCell ⟨b, o, none⟩ u) (some b) :=
  ⟨rfl, rfl, rfl, by simp [World.setCell], fun k _ hne => Below.heap_setCell _ _ _ _ (fun e => hne (by rw [e]))⟩
set_option maxHeartbeats 3200000 in
set_option maxRecDepth 100000 in
theorem markInsSP (B : Nat) (v : Value) (n : Nat) (k : Int) (w : World) (h : Rw B w 90 4 v n) (hn : n ≤ 1048576) (h0 : 0 ≤ k) (h1 : k ≤ 100000000) :
    Calls Tryd.prog 57 #[v, .int .i64 k] w fun e w' => e = .returned (.int .i64 (k + 4 * n)) ∧ Mk w' 90 4 v n k ∧ w.grownBy w' v.ownBlock := by
  obtain ⟨a, c, rfl, h⟩ := h
  rcases h with h | ⟨g, C, hB, rfl, hb, hs⟩
  · subst h
    go_enter Tryd.func57, Tryd.ntmps57
    go_wp2
    go_loopw [1, 5] (fun kk i wr => i = .int .i64 0 ∧ kk = .int .i64 k ∧ wr = w) (fun _ i _ => 0)
    case atStart => exact ⟨rfl, rfl, rfl⟩
    case round =>
      obtain ⟨rfl, rfl, rfl⟩ := hrel
      go_wp2
      go_ret
      exact ⟨by simp, ⟨a, c, rfl, Or.inl rfl⟩, World.grownBy.refl _ _⟩
  have HB := Hid.mk hb
  have M0 : Hid (MB w g 90 (n * 4) 0 k) := ⟨C, hb, hs, fun x hx => by omega⟩
  clear hb
  go_enter Tryd.func57, Tryd.ntmps57
  go_wp2
  go_loopw [1, 5] (fun kk i wr => ∃ j : Nat, j ≤ n ∧ i = .int .i64 j ∧ kk = .int .i64 (k + 4 * j) ∧ Hid (MB wr g 90 (n * 4) (j * 4) k) ∧ Hid (w.grownBy wr (some g))) (fun _ i _ => n - (intOf i).toNat)
  case atStart => exact ⟨0, Nat.zero_le _, rfl, by simp, by unfold Hid; rw [Nat.zero_mul]; exact M0.out, World.grownBy.refl _ _⟩
  case round =>
    obtain ⟨j, hj, rfl, rfl, hM, hg⟩ := hrel
    by_cases hlt : j < n
    · have e7 : j * 4 + 4 ≤ n * 4 := by have := Nat.mul_le_mul_right 4 (show j + 1 ≤ n from hlt); rw [Nat.succ_mul] at this; exact this
      obtain ⟨⟨v0, d0⟩, f0⟩ := hM.out.cell (j * 4 ) (by omega)
      obtain ⟨⟨v1, d1⟩, f1⟩ := hM.out.cell (j * 4 + 1) (by omega)
      obtain ⟨⟨v2, d2⟩, f2⟩ := hM.out.cell (j * 4 + 2) (by omega)
      obtain ⟨⟨v3, d3⟩, f3⟩ := hM.out.cell (j * 4 + 3) (by omega)
      go_wp2
      refine ⟨⟨j + 1, by omega, by go_num, by congr 1; omega, ?_, ?_⟩, by simp [intOf]; omega⟩
      · unfold Hid
        rw [Nat.succ_mul]
        exact (mkstep (mkstep (mkstep (mkstep hM.out (by omega) (by congr 1; omega)) (by omega) (by congr 1; omega)) (by omega) (by congr 1; omega)) (by omega) (by congr 1; omega))
      · exact ((((hg.out.trans (gset _ _ _ _)).trans (gset _ _ _ _)).trans (gset _ _ _ _)).trans (gset _ _ _ _))
    · have hkn : j = n := by omega
      subst hkn
      go_wp2
      go_ret
      exact ⟨rfl, ⟨_, c, rfl, Or.inr ⟨g, rfl, hM.out⟩⟩, hg.out⟩

set_option maxHeartbeats 3200000 in
set_option maxRecDepth 100000 in
theorem heldInsSP (v : Value) (n : Nat) (k : Int) (w : World) (h : Mk w 90 4 v n k) (hn : n ≤ 1048576) (h0 : 0 ≤ k) (h1 : k ≤ 100000000) :
    Calls Tryd.prog 61 #[v, .int .i64 k] w fun e w' => e = .returned (.int .i64 (k + 4 * n)) ∧ w' = w := by
  obtain ⟨a, c, rfl, h⟩ := h
  rcases h with h | ⟨g, rfl, h⟩
  · subst h
    go_enter Tryd.func61, Tryd.ntmps61
    go_wp2
    go_loopw [1, 5] (fun kk i wr => i = .int .i64 0 ∧ kk = .int .i64 k ∧ wr = w) (fun _ i _ => 0)
    case atStart => exact ⟨rfl, rfl, rfl⟩
    case round =>
      obtain ⟨rfl, rfl, rfl⟩ := hrel
      go_wp2
      go_ret
      exact ⟨by simp, rfl⟩
  have hM := Hid.mk h
  clear h
  go_enter Tryd.func61, Tryd.ntmps61
  go_wp2
  go_loopw [1, 5] (fun kk i wr => wr = w ∧ ∃ j : Nat, j ≤ n ∧ i = .int .i64 j ∧ kk = .int .i64 (k + 4 * j)) (fun _ i _ => n - (intOf i).toNat)
  case atStart => exact ⟨rfl, 0, Nat.zero_le _, rfl, by simp⟩
  case round =>
    obtain ⟨rfl, j, hj, rfl, rfl⟩ := hrel
    by_cases hlt : j < n
    · have e7 : j * 4 + 4 ≤ n * 4 := by have := Nat.mul_le_mul_right 4 (show j + 1 ≤ n from hlt); rw [Nat.succ_mul] at this; exact this
      have d0 := hM.out.val (j * 4 ) (by omega) (z := k + 4 * (j : Int) ) (by omega)
      have d1 := hM.out.val (j * 4 + 1) (by omega) (z := k + 4 * (j : Int) + 1) (by omega)
      have d2 := hM.out.val (j * 4 + 2) (by omega) (z := k + 4 * (j : Int) + 2) (by omega)
      have d3 := hM.out.val (j * 4 + 3) (by omega) (z := k + 4 * (j : Int) + 3) (by omega)
      go_wp2
      exact ⟨⟨by first | exact trivial | rfl, j + 1, by omega, by go_num, by congr 1; omega⟩, by simp [intOf]; omega⟩
    · have hkn : j = n := by omega
      subst hkn
      go_wp2
      go_ret
      exact ⟨rfl, rfl⟩

set_option maxHeartbeats 1600000 in
set_option maxRecDepth 100000 in
/-- A copy of a text, in memory of its own. -/
theorem toByteS (a : Option Addr) (t : List UInt8) (n c : Nat) (w : World) (hn : n = t.length) (hr : RdB w a t) (hl : n ≤ 1048576) :
    Calls Tryd.prog 25 #[.slice a n c] w fun e w' => e = .returned (.slice (some ⟨w.heap.size, 0, none⟩) n n) ∧ Below w.heap.size w w' ∧ w'.there w.heap.size 0 n ∧ RdB w' (some ⟨w.heap.size, 0, none⟩) t ∧ w.heap.size < w'.heap.size := by
  have HN := Hid.mk hn
  have HR := Hid.mk hr
  clear hn hr
  have hmk := run_make_n (P := Tryd.prog) 28 5 _ 1 1 Tryd.underlying28 infoB n hl (by omega)
  go_enter Tryd.func25, Tryd.ntmps25
  go_wp2
  clear hmk
  go_loopw [4] (fun i wr => ∃ k : Nat, k ≤ n ∧ i = .int .i64 k ∧ Hid (Below w.heap.size w wr) ∧ Hid (wr.there w.heap.size 0 n) ∧ Hid (∀ j (h : j < t.length), j < k → wr.cell? ⟨w.heap.size, j, none⟩ = some (.int .u8 (t[j].toNat : Int))) ∧ Hid (w.heap.size < wr.heap.size)) (fun i _ => n - (intOf i).toNat)
  case atStart => exact ⟨0, Nat.zero_le _, rfl, (Below.refl _ _).alloc (Nat.le_refl _) _, there_make w #[.int .u8 0] 5 n, fun j _ hj => absurd hj (Nat.not_lt_zero _), by simp [Hid]⟩
  case round =>
    obtain ⟨k, hk, rfl, hb, ht, hf, hsz⟩ := hrel
    by_cases hlt : k < n
    · have hkl : k < t.length := by rw [← HN.out]; exact hlt
      rcases (HR.out.below hb.out) with y0 | ⟨g, o, rfl, y0⟩
      · rw [y0] at hkl; simp at hkl
      have y1 := y0 k hkl
      clear y0
      obtain ⟨q, hq⟩ : ∃ q, q = t[k].toNat := ⟨_, rfl⟩
      rw [← hq] at y1
      have HQ := Hid.mk hq
      obtain ⟨c1, c2⟩ := ht.out k hlt
      obtain ⟨u, c1'⟩ := Option.isSome_iff_exists.1 c1
      rw [Nat.zero_add] at c1' c2
      clear hq c1
      go_wp2
      refine ⟨⟨k + 1, by omega, by go_num, hb.out.setCell (p := ⟨w.heap.size, k, none⟩) (Nat.le_refl _) _, World.there_setCells (w := wr) ht.out w.heap.size k [.int .u8 (q : Int)], fun j hjl hj => ?_, ?_⟩, by simp [intOf]; omega⟩
      · by_cases e : j = k
        · subst e
          rw [← HQ.out]
          exact World.cell?_setCell_same _ _ _ c1'
        · rw [World.cell?_setCell_other _ _ _ _ (by intro h; injection h; omega)]
          exact hf.out j hjl (by omega)
      · show w.heap.size < (wr.setCell ⟨w.heap.size, k, none⟩ (.int .u8 (q : Int))).heap.size
        rw [size_set]; exact hsz.out
    · obtain rfl : k = n := by omega
      go_wp2
      go_ret
      exact ⟨rfl, hb.out, ht.out, Or.inr ⟨w.heap.size, 0, rfl, fun j hj => by rw [Nat.zero_add]; exact hf.out j hj (by rw [HN.out]; exact hj)⟩, hsz.out⟩
theorem Rw.gb {B n sz : Nat} {w w' : World} {T : TypeId} {v : Value} {q : Option Nat} (h : Rw B w T sz v n) (hg : w.grownBy w' q) (hne : ∀ g, v.ownBlock = some g → q ≠ some g) : Rw B w' T sz v n := by
  obtain ⟨a, c, rfl, h⟩ := h
  refine ⟨a, c, rfl, ?_⟩
  rcases h with h | ⟨g, C, h1, rfl, h3, h4⟩
  · exact Or.inl h
  · exact Or.inr ⟨g, C, h1, rfl, by rw [hg.block g (blk_lt h3) (fun e => hne g rfl e.symm)]; exact h3, h4⟩
theorem Mk.gb {n sz : Nat} {w w' : World} {T : TypeId} {v : Value} {k : Int} {q : Option Nat} (h : Mk w T sz v n k) (hg : w.grownBy w' q) (hne : ∀ g, v.ownBlock = some g → q ≠ some g) : Mk w' T sz v n k := by
  obtain ⟨a, c, rfl, h⟩ := h
  refine ⟨a, c, rfl, ?_⟩
  rcases h with h | ⟨g, rfl, C, h2, h3⟩
  · exact Or.inl h
  · exact Or.inr ⟨g, rfl, C, by rw [hg.block g (blk_lt h2) (fun e => hne g rfl e.symm)]; exact h2, h3⟩
theorem gb_low {B : Nat} {w w' : World} {q : Option Nat} (hg : w.grownBy w' q) (hB : B ≤ w.heap.size) (hne : ∀ g, q = some g → B ≤ g) : Below B w w' :=
  ⟨hg.os, hg.tape, hg.output, hg.size, fun k hk => hg.block k (by omega) (fun e => by have := hne k e.symm; omega)⟩
/-- The blocks of three rows differ. -/
def Apart3 (v1 v2 v3 : Value) : Prop := (∀ g, v1.ownBlock = some g → v2.ownBlock ≠ some g ∧ v3.ownBlock ≠ some g) ∧ (∀ g, v2.ownBlock = some g → v3.ownBlock ≠ some g)

set_option maxHeartbeats 3200000 in
theorem markCodeP (B : Nat) (a1 a2 a3 : Option Addr) (c1 c2 c3 n1 n2 n3 : Nat) (x y : Int) (w : World) (r1 : Rw B w 90 4 (.slice a1 n1 c1) n1) (r2 : Rw B w 90 4 (.slice a2 n2 c2) n2) (r3 : Rw B w 90 4 (.slice a3 n3 c3) n3) (hap : Apart3 (.slice a1 n1 c1) (.slice a2 n2 c2) (.slice a3 n3 c3)) (l1 : n1 ≤ 16384) (l2 : n2 ≤ 16384) (l3 : n3 ≤ 16384)
    (q1 : ∀ g, (Value.slice a1 n1 c1).ownBlock = some g → B ≤ g ∧ g < w.heap.size) (q2 : ∀ g, (Value.slice a2 n2 c2).ownBlock = some g → B ≤ g ∧ g < w.heap.size) (q3 : ∀ g, (Value.slice a3 n3 c3).ownBlock = some g → B ≤ g ∧ g < w.heap.size) (hB : B ≤ w.heap.size) :
    Calls Tryd.prog 23 #[.agg #[.int .i64 x, .int .i64 y, .slice a1 n1 c1, .slice a2 n2 c2, .slice a3 n3 c3], .int .i64 1] w fun e w' => e = .returned (.int .i64 (1 + 4 * n1 + 4 * n2 + 4 * n3)) ∧ Mk w' 90 4 (.slice a1 n1 c1) n1 1 ∧ Mk w' 90 4 (.slice a2 n2 c2) n2 (1 + 4 * n1) ∧ Mk w' 90 4 (.slice a3 n3 c3) n3 (1 + 4 * n1 + 4 * n2) ∧ Below B w w' ∧ (∀ x, x < w.heap.size → (Value.slice a1 n1 c1).ownBlock ≠ some x → (Value.slice a2 n2 c2).ownBlock ≠ some x → (Value.slice a3 n3 c3).ownBlock ≠ some x → w'.heap[x]? = w.heap[x]?) := by
  have R1 := Hid.mk r1
  have R2 := Hid.mk r2
  have R3 := Hid.mk r3
  have AP := Hid.mk hap
  have QQ := Hid.mk (And.intro q1 (And.intro q2 q3))
  clear r1 r2 r3 hap q1 q2 q3
  go_enter Tryd.func23, Tryd.ntmps23
  go_wp2_with fail
  obtain ⟨W, hW⟩ : ∃ W : World, W = w.alloc (.cells #[.int .i64 x, .int .i64 y, .slice a1 n1 c1, .slice a2 n2 c2, .slice a3 n3 c3] 48) := ⟨_, rfl⟩
  rw [← hW]
  have BW : Hid (Below w.heap.size w W) := by unfold Hid; rw [hW]; go_grown
  have A0 : Hid (W.heap[w.heap.size]? = some (.cells #[.int .i64 x, .int .i64 y, .slice a1 n1 c1, .slice a2 n2 c2, .slice a3 n3 c3] 48)) := by unfold Hid; rw [hW]; exact blk_new w _
  clear hW
  have hs0 := BW.out.size
  refine (markInsSP B _ n1 1 W (R1.out.below BW.out) (by omega) (by omega) (by omega)).mono ?_
  rintro e w1 ⟨rfl, m1, g1⟩
  have A1 := Hid.mk (show w1.heap[w.heap.size]? = _ from (g1.block w.heap.size (blk_lt A0.out) (fun e => by have := QQ.out.1 _ e.symm; omega)).trans A0.out)
  have M1 := Hid.mk m1
  have R2' := Hid.mk ((R2.out.below BW.out).gb g1 (fun g hg e => (AP.out.1 g e).1 hg))
  have R3' := Hid.mk ((R3.out.below BW.out).gb g1 (fun g hg e => (AP.out.1 g e).2 hg))
  have B1 : Hid (Below B w w1) := (BW.out.mono hB).trans (gb_low g1 (by omega) (fun g e => (QQ.out.1 g e).1))
  have z1 := g1.size
  have K1 : Hid (∀ x, x < w.heap.size → (Value.slice a1 n1 c1).ownBlock ≠ some x → w1.heap[x]? = w.heap[x]?) := fun x hx h1 => (g1.block x (by omega) (fun e => h1 e.symm)).trans (BW.out.block x hx)
  clear m1 g1 R1 R2 R3 A0 BW
  have k1 := blk_cell A1.out 3
  simp only [List.getElem?_toArray, List.getElem?_cons_zero, List.getElem?_cons_succ] at k1
  go_wp2_with fail
  clear k1
  refine (markInsSP B _ n2 (1 + 4 * n1) w1 R2'.out (by omega) (by omega) (by omega)).mono ?_
  rintro e w2 ⟨rfl, m2, g2⟩
  have A2 := Hid.mk (show w2.heap[w.heap.size]? = _ from (g2.block w.heap.size (blk_lt A1.out) (fun e => by have := QQ.out.2.1 _ e.symm; omega)).trans A1.out)
  have M2 := Hid.mk m2
  have M1' := Hid.mk (M1.out.gb g2 (fun g hg e => (AP.out.1 g hg).1 e))
  have R3'' := Hid.mk (R3'.out.gb g2 (fun g hg e => AP.out.2 g e hg))
  have B2 : Hid (Below B w w2) := B1.out.trans (gb_low g2 (by omega) (fun g e => (QQ.out.2.1 g e).1))
  have z2 := g2.size
  have K2 : Hid (∀ x, x < w.heap.size → (Value.slice a1 n1 c1).ownBlock ≠ some x → (Value.slice a2 n2 c2).ownBlock ≠ some x → w2.heap[x]? = w.heap[x]?) := fun x hx h1 h2 => (g2.block x (by omega) (fun e => h2 e.symm)).trans (K1.out x hx h1)
  clear m2 g2 R2' R3' A1 B1 M1
  have k1 := blk_cell A2.out 4
  simp only [List.getElem?_toArray, List.getElem?_cons_zero, List.getElem?_cons_succ] at k1
  go_wp2_with fail
  clear k1
  refine (markInsSP B _ n3 (1 + 4 * n1 + 4 * n2) w2 R3''.out (by omega) (by omega) (by omega)).mono ?_
  rintro e w3 ⟨rfl, m3, g3⟩
  have M3 := Hid.mk m3
  have M1'' := Hid.mk (M1'.out.gb g3 (fun g hg e => (AP.out.1 g hg).2 e))
  have M2' := Hid.mk (M2.out.gb g3 (fun g hg e => AP.out.2 g hg e))
  have B3 : Hid (Below B w w3) := B2.out.trans (gb_low g3 (by omega) (fun g e => (QQ.out.2.2 g e).1))
  have K3 : Hid (∀ x, x < w.heap.size → (Value.slice a1 n1 c1).ownBlock ≠ some x → (Value.slice a2 n2 c2).ownBlock ≠ some x → (Value.slice a3 n3 c3).ownBlock ≠ some x → w3.heap[x]? = w.heap[x]?) := fun x hx h1 h2 h3 => (g3.block x (by omega) (fun e => h3 e.symm)).trans (K2.out x hx h1 h2)
  clear m3 g3 R3'' A2 B2 M1' M2
  go_wp2
  go_ret
  exact ⟨rfl, M1''.out, M2'.out, M3.out, B3.out, K3.out⟩

set_option maxHeartbeats 3200000 in
theorem heldCodeP (a1 a2 a3 : Option Addr) (c1 c2 c3 n1 n2 n3 : Nat) (x y : Int) (w : World) (r1 : Mk w 90 4 (.slice a1 n1 c1) n1 1) (r2 : Mk w 90 4 (.slice a2 n2 c2) n2 (1 + 4 * n1)) (r3 : Mk w 90 4 (.slice a3 n3 c3) n3 (1 + 4 * n1 + 4 * n2)) (l1 : n1 ≤ 16384) (l2 : n2 ≤ 16384) (l3 : n3 ≤ 16384) :
    Calls Tryd.prog 27 #[.agg #[.int .i64 x, .int .i64 y, .slice a1 n1 c1, .slice a2 n2 c2, .slice a3 n3 c3], .int .i64 1] w fun e w' => e = .returned (.int .i64 (1 + 4 * n1 + 4 * n2 + 4 * n3)) ∧ Below w.heap.size w w' := by
  have R1 := Hid.mk r1
  have R2 := Hid.mk r2
  have R3 := Hid.mk r3
  clear r1 r2 r3
  go_enter Tryd.func27, Tryd.ntmps27
  go_wp2_with fail
  obtain ⟨W, hW⟩ : ∃ W : World, W = w.alloc (.cells #[.int .i64 x, .int .i64 y, .slice a1 n1 c1, .slice a2 n2 c2, .slice a3 n3 c3] 48) := ⟨_, rfl⟩
  rw [← hW]
  have BW : Hid (Below w.heap.size w W) := by unfold Hid; rw [hW]; go_grown
  have A0 : Hid (W.heap[w.heap.size]? = some (.cells #[.int .i64 x, .int .i64 y, .slice a1 n1 c1, .slice a2 n2 c2, .slice a3 n3 c3] 48)) := by unfold Hid; rw [hW]; exact blk_new w _
  clear hW
  refine (heldInsSP _ n1 1 W (R1.out.below BW.out) (by omega) (by omega) (by omega)).mono ?_
  rintro e w1 ⟨rfl, hw⟩
  rw [hw]
  clear hw
  have k1 := blk_cell A0.out 3
  have k2 := blk_cell A0.out 4
  simp only [List.getElem?_toArray, List.getElem?_cons_zero, List.getElem?_cons_succ] at k1 k2
  have t1 : decide ((1 : Int) + 4 * (n1 : Int) < 0) = false := by simp; omega
  have t2 : decide ((1 : Int) + 4 * (n1 : Int) + 4 * (n2 : Int) < 0) = false := by simp; omega
  have t3 : decide ((1 : Int) + 4 * (n1 : Int) + 4 * (n2 : Int) + 4 * (n3 : Int) < 0) = false := by simp; omega
  go_wp2_with fail
  refine (heldInsSP _ n2 (1 + 4 * n1) W (R2.out.below BW.out) (by omega) (by omega) (by omega)).mono ?_
  rintro e w1 ⟨rfl, hw⟩
  rw [hw]
  clear hw
  go_wp2_with fail
  refine (heldInsSP _ n3 (1 + 4 * n1 + 4 * n2) W (R3.out.below BW.out) (by omega) (by omega) (by omega)).mono ?_
  rintro e w1 ⟨rfl, hw⟩
  rw [hw]
  clear hw
  go_wp2
  go_ret
  exact ⟨rfl, BW.out⟩
end Go.Proofs.YtdhnjkcebaahcaaDoor.Dec
