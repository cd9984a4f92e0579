import Derived.Test.YtdhnjkcebaahcaaGreatDoorAccL
import Derived.Test.YtdhnjkcebaahcaaGreatDoorTextL
namespace Go.Proofs.YtdhnjkcebaahcaaGreatDoor.Parse
open Go Go.RowKit Go.Proofs.YtdhnjkcebaahcaaGreatDoor.Mem Go.Proofs.YtdhnjkcebaahcaaGreatDoor.Valid
set_option linter.unusedVariables false
set_option linter.unusedSimpArgs false
attribute [local go_sem ↓] Go.wp_at_zero Go.wp_at_succ

/-- A row that may be written, from block B on; a row that bears marks from k on; what a mark leaves as it was. -/
def Rw (B : Nat) (w : World) (T : TypeId) (sz : Nat) (v : Value) (n : Nat) : Prop := ∃ a c, v = .slice a n c ∧ (n = 0 ∨ ∃ g C, B ≤ g ∧ a = some ⟨g, 0, none⟩ ∧ w.heap[g]? = some (.cells C T) ∧ n * sz ≤ C.size)
def MB (w : World) (g : Nat) (T : TypeId) (N m : Nat) (k : Int) : Prop := ∃ C, w.heap[g]? = some (.cells C T) ∧ N ≤ C.size ∧ ∀ x, x < m → C[x]? = some (.int .i64 (k + (x : Int)))
def Mk (w : World) (T : TypeId) (sz : Nat) (v : Value) (n : Nat) (k : Int) : Prop := ∃ a c, v = .slice a n c ∧ (n = 0 ∨ ∃ g, a = some ⟨g, 0, none⟩ ∧ MB w g T (n * sz) (n * sz) k)
structure Fr (B : Nat) (T : TypeId) (w w' : World) : Prop where
  below : Below B w w'
  kept : ∀ (g : Nat) (C : Array Value) (t : TypeId) (fr : Nat × Nat), w.heap[g]? = some (Obj.cells C t fr) → t ≠ T → w'.heap[g]? = some (Obj.cells C t fr)
theorem row_rw {B n sz : Nat} {w : World} {T : TypeId} {v : Value} {xs : List Value} (h : w.ownsRow B T sz v n xs) : Rw B w T sz v n := by
  rcases h.2 with ⟨rfl, h0⟩ | ⟨g, cap, cur, rfl, hg, hblk, hcap, -, hs, -⟩
  · exact ⟨none, 0, by rw [h0], Or.inl h0⟩
  · exact ⟨_, _, rfl, Or.inr ⟨g, cur, hg, rfl, hblk, by rw [hs]; exact Nat.mul_le_mul_right _ hcap⟩⟩
theorem Rw.fr {B n sz B' : Nat} {w w' : World} {T T' : TypeId} {v : Value} (h : Rw B w T sz v n) (hf : Fr B' T' w w') (hne : T ≠ T') : Rw B w' T sz v n := by
  obtain ⟨a, c, e, h⟩ := h
  refine ⟨a, c, e, ?_⟩
  rcases h with h | ⟨g, C, h1, h2, h3, h4⟩
  · exact Or.inl h
  · exact Or.inr ⟨g, C, h1, h2, hf.kept _ _ _ _ h3 hne, h4⟩
theorem Rw.below {B n sz : Nat} {w w' : World} {T : TypeId} {v : Value} (h : Rw B w T sz v n) (hb : Below w.heap.size w w') : Rw B w' T sz v n := by
  obtain ⟨a, c, e, h⟩ := h
  refine ⟨a, c, e, ?_⟩
  rcases h with h | ⟨g, C, h1, h2, h3, h4⟩
  · exact Or.inl h
  · exact Or.inr ⟨g, C, h1, h2, blk_below h3 hb, h4⟩
theorem Mk.fr {n sz B' : Nat} {w w' : World} {T T' : TypeId} {v : Value} {k : Int} (h : Mk w T sz v n k) (hf : Fr B' T' w w') (hne : T ≠ T') : Mk w' T sz v n k := by
  obtain ⟨a, c, e, h⟩ := h
  refine ⟨a, c, e, ?_⟩
  rcases h with h | ⟨g, h1, C, h2, h3⟩
  · exact Or.inl h
  · exact Or.inr ⟨g, h1, C, hf.kept _ _ _ _ h2 hne, h3⟩
theorem Mk.below {n sz : Nat} {w w' : World} {T : TypeId} {v : Value} {k : Int} (h : Mk w T sz v n k) (hb : Below w.heap.size w w') : Mk w' T sz v n k := by
  obtain ⟨a, c, e, h⟩ := h
  refine ⟨a, c, e, ?_⟩
  rcases h with h | ⟨g, h1, C, h2, h3⟩
  · exact Or.inl h
  · exact Or.inr ⟨g, h1, C, blk_below h2 hb, h3⟩
theorem mkstep {w : World} {g N m : Nat} {T : TypeId} {k : Int} {v : Value} (h : MB w g T N m k) (hm : m < N) (hv : v = .int .i64 (k + (m : Int))) : MB (w.setCell ⟨g, m, none⟩ v) g T N (m + 1) k := by
  obtain ⟨C, h1, h2, h3⟩ := h
  refine ⟨_, blk_set h1 m v, by simpa using h2, fun x hx => ?_⟩
  rw [Array.getElem?_setIfInBounds]
  by_cases e : m = x
  · subst e
    rw [if_pos rfl, if_pos (by omega), hv]
  · rw [if_neg e]
    exact h3 x (by omega)
theorem MB.cell {w : World} {g N m : Nat} {T : TypeId} {k : Int} (h : MB w g T N m k) (x : Nat) (hx : x < N) : (∃ v, w.cell? ⟨g, x, none⟩ = some v) ∧ w.frozen? ⟨g, x, none⟩ = false := by
  obtain ⟨C, h1, h2, h3⟩ := h
  exact ⟨⟨C[x], by rw [blk_cell h1 x]; exact Array.getElem?_eq_getElem (by omega)⟩, blk_unfrozen h1 x⟩
theorem MB.val {w : World} {g N m : Nat} {T : TypeId} {k : Int} (h : MB w g T N m k) (x : Nat) (hx : x < m) {z : Int} (hz : z = k + (x : Int)) : w.cell? ⟨g, x, none⟩ = some (.int .i64 z) := by
  obtain ⟨C, h1, h2, h3⟩ := h
  rw [blk_cell h1 x, hz]; exact h3 x hx
theorem gset (w : World) (b o : Nat) (u : Value) : w.grownBy (w.setCell ⟨b, o, none⟩ u) (some b) :=
  ⟨rfl, rfl, rfl, by simp [World.setCell], fun k _ hne => Below.heap_setCell _ _ _ _ (fun e => hne (by rw [e]))⟩
theorem fr_grown {B g : Nat} {w w' : World} {T : TypeId} {C : Array Value} (h : w.grownBy w' (some g)) (hb : w.heap[g]? = some (.cells C T)) (hB : B ≤ g) : Fr B T w w' := by
  have hlt := blk_lt hb
  refine ⟨⟨h.os, h.tape, h.output, h.size, fun k hk => h.block k (by omega) (by intro e; injection e; omega)⟩, fun x D t fr hx hne => ?_⟩
  rw [h.block x (blk_lt hx) (by
    intro e
    injection e with e
    subst e
    rw [hb] at hx
    injection hx with hx
    injection hx with _ e2
    exact hne e2.symm)]
  exact hx
theorem fr_refl (B : Nat) (T : TypeId) (w : World) : Fr B T w w := ⟨Below.refl _ _, fun _ _ _ _ h _ => h⟩

set_option maxHeartbeats 3200000 in
set_option maxRecDepth 100000 in
theorem markVehicleSP (B : Nat) (v : Value) (n : Nat) (k : Int) (w : World) (h : Rw B w 58 7 v n) (hn : n ≤ 1048576) (h0 : 0 ≤ k) (h1 : k ≤ 100000000) :
    Calls Tryz.prog 40 #[v, .int .i64 k] w fun e w' => e = .returned (.int .i64 (k + 7 * n)) ∧ Mk w' 58 7 v n k ∧ Fr B 58 w w' := by
  obtain ⟨a, c, rfl, h⟩ := h
  rcases h with h | ⟨g, C, hB, rfl, hb, hs⟩
  · subst h
    go_enter Tryz.func40, Tryz.ntmps40
    go_wp2
    go_loopw [1, 5] (fun kk i wr => i = .int .i64 0 ∧ kk = .int .i64 k ∧ wr = w) (fun _ i _ => 0)
    case atStart => exact ⟨rfl, rfl, rfl⟩
    case round =>
      obtain ⟨rfl, rfl, rfl⟩ := hrel
      go_wp2
      go_ret
      exact ⟨by simp, ⟨a, c, rfl, Or.inl rfl⟩, fr_refl _ _ _⟩
  have HB := Hid.mk hb
  have M0 : Hid (MB w g 58 (n * 7) 0 k) := ⟨C, hb, hs, fun x hx => by omega⟩
  clear hb
  go_enter Tryz.func40, Tryz.ntmps40
  go_wp2
  go_loopw [1, 5] (fun kk i wr => ∃ j : Nat, j ≤ n ∧ i = .int .i64 j ∧ kk = .int .i64 (k + 7 * j) ∧ Hid (MB wr g 58 (n * 7) (j * 7) k) ∧ Hid (w.grownBy wr (some g))) (fun _ i _ => n - (intOf i).toNat)
  case atStart => exact ⟨0, Nat.zero_le _, rfl, by simp, by unfold Hid; rw [Nat.zero_mul]; exact M0.out, World.grownBy.refl _ _⟩
  case round =>
    obtain ⟨j, hj, rfl, rfl, hM, hg⟩ := hrel
    by_cases hlt : j < n
    · have e7 : j * 7 + 7 ≤ n * 7 := by have := Nat.mul_le_mul_right 7 (show j + 1 ≤ n from hlt); rw [Nat.succ_mul] at this; exact this
      obtain ⟨⟨v0, d0⟩, f0⟩ := hM.out.cell (j * 7 ) (by omega)
      obtain ⟨⟨v1, d1⟩, f1⟩ := hM.out.cell (j * 7 + 1) (by omega)
      obtain ⟨⟨v2, d2⟩, f2⟩ := hM.out.cell (j * 7 + 2) (by omega)
      obtain ⟨⟨v3, d3⟩, f3⟩ := hM.out.cell (j * 7 + 3) (by omega)
      obtain ⟨⟨v4, d4⟩, f4⟩ := hM.out.cell (j * 7 + 4) (by omega)
      obtain ⟨⟨v5, d5⟩, f5⟩ := hM.out.cell (j * 7 + 5) (by omega)
      obtain ⟨⟨v6, d6⟩, f6⟩ := hM.out.cell (j * 7 + 6) (by omega)
      go_wp2
      refine ⟨⟨j + 1, by omega, by go_num, by congr 1; omega, ?_, ?_⟩, by simp [intOf]; omega⟩
      · unfold Hid
        rw [Nat.succ_mul]
        exact (mkstep (mkstep (mkstep (mkstep (mkstep (mkstep (mkstep hM.out (by omega) (by congr 1; omega)) (by omega) (by congr 1; omega)) (by omega) (by congr 1; omega)) (by omega) (by congr 1; omega)) (by omega) (by congr 1; omega)) (by omega) (by congr 1; omega)) (by omega) (by congr 1; omega))
      · exact (((((((hg.out.trans (gset _ _ _ _)).trans (gset _ _ _ _)).trans (gset _ _ _ _)).trans (gset _ _ _ _)).trans (gset _ _ _ _)).trans (gset _ _ _ _)).trans (gset _ _ _ _))
    · have hkn : j = n := by omega
      subst hkn
      go_wp2
      go_ret
      exact ⟨rfl, ⟨_, c, rfl, Or.inr ⟨g, rfl, hM.out⟩⟩, fr_grown hg.out HB.out hB⟩

set_option maxHeartbeats 3200000 in
set_option maxRecDepth 100000 in
theorem markRequestSP (B : Nat) (v : Value) (n : Nat) (k : Int) (w : World) (h : Rw B w 61 12 v n) (hn : n ≤ 1048576) (h0 : 0 ≤ k) (h1 : k ≤ 100000000) :
    Calls Tryz.prog 41 #[v, .int .i64 k] w fun e w' => e = .returned (.int .i64 (k + 12 * n)) ∧ Mk w' 61 12 v n k ∧ Fr B 61 w w' := by
  obtain ⟨a, c, rfl, h⟩ := h
  rcases h with h | ⟨g, C, hB, rfl, hb, hs⟩
  · subst h
    go_enter Tryz.func41, Tryz.ntmps41
    go_wp2
    go_loopw [1, 5] (fun kk i wr => i = .int .i64 0 ∧ kk = .int .i64 k ∧ wr = w) (fun _ i _ => 0)
    case atStart => exact ⟨rfl, rfl, rfl⟩
    case round =>
      obtain ⟨rfl, rfl, rfl⟩ := hrel
      go_wp2
      go_ret
      exact ⟨by simp, ⟨a, c, rfl, Or.inl rfl⟩, fr_refl _ _ _⟩
  have HB := Hid.mk hb
  have M0 : Hid (MB w g 61 (n * 12) 0 k) := ⟨C, hb, hs, fun x hx => by omega⟩
  clear hb
  go_enter Tryz.func41, Tryz.ntmps41
  go_wp2
  go_loopw [1, 5] (fun kk i wr => ∃ j : Nat, j ≤ n ∧ i = .int .i64 j ∧ kk = .int .i64 (k + 12 * j) ∧ Hid (MB wr g 61 (n * 12) (j * 12) k) ∧ Hid (w.grownBy wr (some g))) (fun _ i _ => n - (intOf i).toNat)
  case atStart => exact ⟨0, Nat.zero_le _, rfl, by simp, by unfold Hid; rw [Nat.zero_mul]; exact M0.out, World.grownBy.refl _ _⟩
  case round =>
    obtain ⟨j, hj, rfl, rfl, hM, hg⟩ := hrel
    by_cases hlt : j < n
    · have e7 : j * 12 + 12 ≤ n * 12 := by have := Nat.mul_le_mul_right 12 (show j + 1 ≤ n from hlt); rw [Nat.succ_mul] at this; exact this
      obtain ⟨⟨v0, d0⟩, f0⟩ := hM.out.cell (j * 12 ) (by omega)
      obtain ⟨⟨v1, d1⟩, f1⟩ := hM.out.cell (j * 12 + 1) (by omega)
      obtain ⟨⟨v2, d2⟩, f2⟩ := hM.out.cell (j * 12 + 2) (by omega)
      obtain ⟨⟨v3, d3⟩, f3⟩ := hM.out.cell (j * 12 + 3) (by omega)
      obtain ⟨⟨v4, d4⟩, f4⟩ := hM.out.cell (j * 12 + 4) (by omega)
      obtain ⟨⟨v5, d5⟩, f5⟩ := hM.out.cell (j * 12 + 5) (by omega)
      obtain ⟨⟨v6, d6⟩, f6⟩ := hM.out.cell (j * 12 + 6) (by omega)
      obtain ⟨⟨v7, d7⟩, f7⟩ := hM.out.cell (j * 12 + 7) (by omega)
      obtain ⟨⟨v8, d8⟩, f8⟩ := hM.out.cell (j * 12 + 8) (by omega)
      obtain ⟨⟨v9, d9⟩, f9⟩ := hM.out.cell (j * 12 + 9) (by omega)
      obtain ⟨⟨v10, d10⟩, f10⟩ := hM.out.cell (j * 12 + 10) (by omega)
      obtain ⟨⟨v11, d11⟩, f11⟩ := hM.out.cell (j * 12 + 11) (by omega)
      go_wp2
      refine ⟨⟨j + 1, by omega, by go_num, by congr 1; omega, ?_, ?_⟩, by simp [intOf]; omega⟩
      · unfold Hid
        rw [Nat.succ_mul]
        exact (mkstep (mkstep (mkstep (mkstep (mkstep (mkstep (mkstep (mkstep (mkstep (mkstep (mkstep (mkstep hM.out (by omega) (by congr 1; omega)) (by omega) (by congr 1; omega)) (by omega) (by congr 1; omega)) (by omega) (by congr 1; omega)) (by omega) (by congr 1; omega)) (by omega) (by congr 1; omega)) (by omega) (by congr 1; omega)) (by omega) (by congr 1; omega)) (by omega) (by congr 1; omega)) (by omega) (by congr 1; omega)) (by omega) (by congr 1; omega)) (by omega) (by congr 1; omega))
      · exact ((((((((((((hg.out.trans (gset _ _ _ _)).trans (gset _ _ _ _)).trans (gset _ _ _ _)).trans (gset _ _ _ _)).trans (gset _ _ _ _)).trans (gset _ _ _ _)).trans (gset _ _ _ _)).trans (gset _ _ _ _)).trans (gset _ _ _ _)).trans (gset _ _ _ _)).trans (gset _ _ _ _)).trans (gset _ _ _ _))
    · have hkn : j = n := by omega
      subst hkn
      go_wp2
      go_ret
      exact ⟨rfl, ⟨_, c, rfl, Or.inr ⟨g, rfl, hM.out⟩⟩, fr_grown hg.out HB.out hB⟩

set_option maxHeartbeats 3200000 in
set_option maxRecDepth 100000 in
theorem markRoadSP (B : Nat) (v : Value) (n : Nat) (k : Int) (w : World) (h : Rw B w 64 3 v n) (hn : n ≤ 1048576) (h0 : 0 ≤ k) (h1 : k ≤ 100000000) :
    Calls Tryz.prog 42 #[v, .int .i64 k] w fun e w' => e = .returned (.int .i64 (k + 3 * n)) ∧ Mk w' 64 3 v n k ∧ Fr B 64 w w' := by
  obtain ⟨a, c, rfl, h⟩ := h
  rcases h with h | ⟨g, C, hB, rfl, hb, hs⟩
  · subst h
    go_enter Tryz.func42, Tryz.ntmps42
    go_wp2
    go_loopw [1, 5] (fun kk i wr => i = .int .i64 0 ∧ kk = .int .i64 k ∧ wr = w) (fun _ i _ => 0)
    case atStart => exact ⟨rfl, rfl, rfl⟩
    case round =>
      obtain ⟨rfl, rfl, rfl⟩ := hrel
      go_wp2
      go_ret
      exact ⟨by simp, ⟨a, c, rfl, Or.inl rfl⟩, fr_refl _ _ _⟩
  have HB := Hid.mk hb
  have M0 : Hid (MB w g 64 (n * 3) 0 k) := ⟨C, hb, hs, fun x hx => by omega⟩
  clear hb
  go_enter Tryz.func42, Tryz.ntmps42
  go_wp2
  go_loopw [1, 5] (fun kk i wr => ∃ j : Nat, j ≤ n ∧ i = .int .i64 j ∧ kk = .int .i64 (k + 3 * j) ∧ Hid (MB wr g 64 (n * 3) (j * 3) k) ∧ Hid (w.grownBy wr (some g))) (fun _ i _ => n - (intOf i).toNat)
  case atStart => exact ⟨0, Nat.zero_le _, rfl, by simp, by unfold Hid; rw [Nat.zero_mul]; exact M0.out, World.grownBy.refl _ _⟩
  case round =>
    obtain ⟨j, hj, rfl, rfl, hM, hg⟩ := hrel
    by_cases hlt : j < n
    · have e7 : j * 3 + 3 ≤ n * 3 := by have := Nat.mul_le_mul_right 3 (show j + 1 ≤ n from hlt); rw [Nat.succ_mul] at this; exact this
      obtain ⟨⟨v0, d0⟩, f0⟩ := hM.out.cell (j * 3 ) (by omega)
      obtain ⟨⟨v1, d1⟩, f1⟩ := hM.out.cell (j * 3 + 1) (by omega)
      obtain ⟨⟨v2, d2⟩, f2⟩ := hM.out.cell (j * 3 + 2) (by omega)
      go_wp2
      refine ⟨⟨j + 1, by omega, by go_num, by congr 1; omega, ?_, ?_⟩, by simp [intOf]; omega⟩
      · unfold Hid
        rw [Nat.succ_mul]
        exact (mkstep (mkstep (mkstep hM.out (by omega) (by congr 1; omega)) (by omega) (by congr 1; omega)) (by omega) (by congr 1; omega))
      · exact (((hg.out.trans (gset _ _ _ _)).trans (gset _ _ _ _)).trans (gset _ _ _ _))
    · have hkn : j = n := by omega
      subst hkn
      go_wp2
      go_ret
      exact ⟨rfl, ⟨_, c, rfl, Or.inr ⟨g, rfl, hM.out⟩⟩, fr_grown hg.out HB.out hB⟩

set_option maxHeartbeats 3200000 in
set_option maxRecDepth 100000 in
theorem heldVehicleSP (v : Value) (n : Nat) (k : Int) (w : World) (h : Mk w 58 7 v n k) (hn : n ≤ 1048576) (h0 : 0 ≤ k) (h1 : k ≤ 100000000) :
    Calls Tryz.prog 43 #[v, .int .i64 k] w fun e w' => e = .returned (.int .i64 (k + 7 * n)) ∧ w' = w := by
  obtain ⟨a, c, rfl, h⟩ := h
  rcases h with h | ⟨g, rfl, h⟩
  · subst h
    go_enter Tryz.func43, Tryz.ntmps43
    go_wp2
    go_loopw [1, 5] (fun kk i wr => i = .int .i64 0 ∧ kk = .int .i64 k ∧ wr = w) (fun _ i _ => 0)
    case atStart => exact ⟨rfl, rfl, rfl⟩
    case round =>
      obtain ⟨rfl, rfl, rfl⟩ := hrel
      go_wp2
      go_ret
      exact ⟨by simp, rfl⟩
  have hM := Hid.mk h
  clear h
  go_enter Tryz.func43, Tryz.ntmps43
  go_wp2
  go_loopw [1, 5] (fun kk i wr => wr = w ∧ ∃ j : Nat, j ≤ n ∧ i = .int .i64 j ∧ kk = .int .i64 (k + 7 * j)) (fun _ i _ => n - (intOf i).toNat)
  case atStart => exact ⟨rfl, 0, Nat.zero_le _, rfl, by simp⟩
  case round =>
    obtain ⟨rfl, j, hj, rfl, rfl⟩ := hrel
    by_cases hlt : j < n
    · have e7 : j * 7 + 7 ≤ n * 7 := by have := Nat.mul_le_mul_right 7 (show j + 1 ≤ n from hlt); rw [Nat.succ_mul] at this; exact this
      have d0 := hM.out.val (j * 7 ) (by omega) (z := k + 7 * (j : Int) ) (by omega)
      have d1 := hM.out.val (j * 7 + 1) (by omega) (z := k + 7 * (j : Int) + 1) (by omega)
      have d2 := hM.out.val (j * 7 + 2) (by omega) (z := k + 7 * (j : Int) + 2) (by omega)
      have d3 := hM.out.val (j * 7 + 3) (by omega) (z := k + 7 * (j : Int) + 3) (by omega)
      have d4 := hM.out.val (j * 7 + 4) (by omega) (z := k + 7 * (j : Int) + 4) (by omega)
      have d5 := hM.out.val (j * 7 + 5) (by omega) (z := k + 7 * (j : Int) + 5) (by omega)
      have d6 := hM.out.val (j * 7 + 6) (by omega) (z := k + 7 * (j : Int) + 6) (by omega)
      go_wp2
      exact ⟨⟨by first | exact trivial | rfl, j + 1, by omega, by go_num, by congr 1; omega⟩, by simp [intOf]; omega⟩
    · have hkn : j = n := by omega
      subst hkn
      go_wp2
      go_ret
      exact ⟨rfl, rfl⟩

set_option maxHeartbeats 3200000 in
set_option maxRecDepth 100000 in
theorem heldRequestSP (v : Value) (n : Nat) (k : Int) (w : World) (h : Mk w 61 12 v n k) (hn : n ≤ 1048576) (h0 : 0 ≤ k) (h1 : k ≤ 100000000) :
    Calls Tryz.prog 44 #[v, .int .i64 k] w fun e w' => e = .returned (.int .i64 (k + 12 * n)) ∧ w' = w := by
  obtain ⟨a, c, rfl, h⟩ := h
  rcases h with h | ⟨g, rfl, h⟩
  · subst h
    go_enter Tryz.func44, Tryz.ntmps44
    go_wp2
    go_loopw [1, 5] (fun kk i wr => i = .int .i64 0 ∧ kk = .int .i64 k ∧ wr = w) (fun _ i _ => 0)
    case atStart => exact ⟨rfl, rfl, rfl⟩
    case round =>
      obtain ⟨rfl, rfl, rfl⟩ := hrel
      go_wp2
      go_ret
      exact ⟨by simp, rfl⟩
  have hM := Hid.mk h
  clear h
  go_enter Tryz.func44, Tryz.ntmps44
  go_wp2
  go_loopw [1, 5] (fun kk i wr => wr = w ∧ ∃ j : Nat, j ≤ n ∧ i = .int .i64 j ∧ kk = .int .i64 (k + 12 * j)) (fun _ i _ => n - (intOf i).toNat)
  case atStart => exact ⟨rfl, 0, Nat.zero_le _, rfl, by simp⟩
  case round =>
    obtain ⟨rfl, j, hj, rfl, rfl⟩ := hrel
    by_cases hlt : j < n
    · have e7 : j * 12 + 12 ≤ n * 12 := by have := Nat.mul_le_mul_right 12 (show j + 1 ≤ n from hlt); rw [Nat.succ_mul] at this; exact this
      have d0 := hM.out.val (j * 12 ) (by omega) (z := k + 12 * (j : Int) ) (by omega)
      have d1 := hM.out.val (j * 12 + 1) (by omega) (z := k + 12 * (j : Int) + 1) (by omega)
      have d2 := hM.out.val (j * 12 + 2) (by omega) (z := k + 12 * (j : Int) + 2) (by omega)
      have d3 := hM.out.val (j * 12 + 3) (by omega) (z := k + 12 * (j : Int) + 3) (by omega)
      have d4 := hM.out.val (j * 12 + 4) (by omega) (z := k + 12 * (j : Int) + 4) (by omega)
      have d5 := hM.out.val (j * 12 + 5) (by omega) (z := k + 12 * (j : Int) + 5) (by omega)
      have d6 := hM.out.val (j * 12 + 6) (by omega) (z := k + 12 * (j : Int) + 6) (by omega)
      have d7 := hM.out.val (j * 12 + 7) (by omega) (z := k + 12 * (j : Int) + 7) (by omega)
      have d8 := hM.out.val (j * 12 + 8) (by omega) (z := k + 12 * (j : Int) + 8) (by omega)
      have d9 := hM.out.val (j * 12 + 9) (by omega) (z := k + 12 * (j : Int) + 9) (by omega)
      have d10 := hM.out.val (j * 12 + 10) (by omega) (z := k + 12 * (j : Int) + 10) (by omega)
      have d11 := hM.out.val (j * 12 + 11) (by omega) (z := k + 12 * (j : Int) + 11) (by omega)
      go_wp2
      exact ⟨⟨by first | exact trivial | rfl, j + 1, by omega, by go_num, by congr 1; omega⟩, by simp [intOf]; omega⟩
    · have hkn : j = n := by omega
      subst hkn
      go_wp2
      go_ret
      exact ⟨rfl, rfl⟩

set_option maxHeartbeats 3200000 in
set_option maxRecDepth 100000 in
theorem heldRoadSP (v : Value) (n : Nat) (k : Int) (w : World) (h : Mk w 64 3 v n k) (hn : n ≤ 1048576) (h0 : 0 ≤ k) (h1 : k ≤ 100000000) :
    Calls Tryz.prog 45 #[v, .int .i64 k] w fun e w' => e = .returned (.int .i64 (k + 3 * n)) ∧ w' = w := by
  obtain ⟨a, c, rfl, h⟩ := h
  rcases h with h | ⟨g, rfl, h⟩
  · subst h
    go_enter Tryz.func45, Tryz.ntmps45
    go_wp2
    go_loopw [1, 5] (fun kk i wr => i = .int .i64 0 ∧ kk = .int .i64 k ∧ wr = w) (fun _ i _ => 0)
    case atStart => exact ⟨rfl, rfl, rfl⟩
    case round =>
      obtain ⟨rfl, rfl, rfl⟩ := hrel
      go_wp2
      go_ret
      exact ⟨by simp, rfl⟩
  have hM := Hid.mk h
  clear h
  go_enter Tryz.func45, Tryz.ntmps45
  go_wp2
  go_loopw [1, 5] (fun kk i wr => wr = w ∧ ∃ j : Nat, j ≤ n ∧ i = .int .i64 j ∧ kk = .int .i64 (k + 3 * j)) (fun _ i _ => n - (intOf i).toNat)
  case atStart => exact ⟨rfl, 0, Nat.zero_le _, rfl, by simp⟩
  case round =>
    obtain ⟨rfl, j, hj, rfl, rfl⟩ := hrel
    by_cases hlt : j < n
    · have e7 : j * 3 + 3 ≤ n * 3 := by have := Nat.mul_le_mul_right 3 (show j + 1 ≤ n from hlt); rw [Nat.succ_mul] at this; exact this
      have d0 := hM.out.val (j * 3 ) (by omega) (z := k + 3 * (j : Int) ) (by omega)
      have d1 := hM.out.val (j * 3 + 1) (by omega) (z := k + 3 * (j : Int) + 1) (by omega)
      have d2 := hM.out.val (j * 3 + 2) (by omega) (z := k + 3 * (j : Int) + 2) (by omega)
      go_wp2
      exact ⟨⟨by first | exact trivial | rfl, j + 1, by omega, by go_num, by congr 1; omega⟩, by simp [intOf]; omega⟩
    · have hkn : j = n := by omega
      subst hkn
      go_wp2
      go_ret
      exact ⟨rfl, rfl⟩

set_option maxHeartbeats 3200000 in
set_option maxRecDepth 100000 in
theorem markBytesP (g n c : Nat) (k : Int) (w : World) (ht : w.there g 0 n) (hl : n ≤ 1048576) (h0 : 0 ≤ k) (h1 : k ≤ 100000000) :
    Calls Tryz.prog 9 #[.slice (some ⟨g, 0, none⟩) n c, .int .i64 k] w fun e w' => e = .returned (.int .i64 (k + n)) ∧ w.grownBy w' (some g) := by
  have HT := Hid.mk ht
  clear ht
  go_enter Tryz.func9, Tryz.ntmps9
  go_wp2
  go_loopw [1, 5] (fun kk i wr => ∃ j : Nat, j ≤ n ∧ i = .int .i64 j ∧ kk = .int .i64 (k + j) ∧ Hid (wr.there g 0 n) ∧ Hid (w.grownBy wr (some g))) (fun _ i _ => n - (intOf i).toNat)
  case atStart => exact ⟨0, Nat.zero_le _, rfl, by simp, HT, World.grownBy.refl _ _⟩
  case round =>
    obtain ⟨j, hj, rfl, rfl, ht, hg⟩ := hrel
    by_cases hlt : j < n
    · obtain ⟨c1, c2⟩ := ht.out j hlt
      obtain ⟨u, c1⟩ := Option.isSome_iff_exists.1 c1
      rw [Nat.zero_add] at c1 c2
      go_wp2
      exact ⟨⟨j + 1, by omega, by go_num, by congr 1; omega, World.there_setCells (w := wr) ht.out g j [_], hg.out.trans (gset _ _ _ _)⟩, by simp [intOf]; omega⟩
    · have hkn : j = n := by omega
      subst hkn
      go_wp2
      go_ret
      exact ⟨rfl, hg.out⟩

set_option maxHeartbeats 3200000 in
set_option maxRecDepth 100000 in
theorem eqBytesP (a b : Option Addr) (bs : List UInt8) (n c d : Nat) (w : World) (hn : n = bs.length) (ha : Rd w a bs) (hb : Rd w b bs) (hl : n ≤ 100000000) :
    Calls Tryz.prog 8 #[.slice a n c, .slice b n d] w fun e w' => e = .returned (.bool true) ∧ Below w.heap.size w w' := by
  have HN := Hid.mk hn
  have HA := Hid.mk ha
  have HB := Hid.mk hb
  clear hn ha hb
  go_enter Tryz.func8, Tryz.ntmps8
  go_wp2
  go_loopw [5] (fun i wr => ∃ j : Nat, j ≤ n ∧ i = .int .i64 j ∧ ∃ m, wr = w.drewN m) (fun i _ => n - (intOf i).toNat)
  case atStart => exact ⟨0, Nat.zero_le _, rfl, 0, rfl⟩
  case round =>
    obtain ⟨j, hj, rfl, m, rfl⟩ := hrel
    by_cases hlt : j < n
    · have hjl : j < bs.length := by rw [← HN.out]; exact hlt
      obtain ⟨g, o, rfl, e1⟩ := HA.out j hjl
      obtain ⟨g', o', rfl, e2⟩ := HB.out j hjl
      go_wp2_with fail
      go_quiet (fail)
      go_wp2
      exact ⟨⟨j + 1, by omega, by go_num, _, rfl⟩, by simp [intOf]; omega⟩
    · go_wp2
      go_ret
      exact ⟨rfl, below_drewN' (Below.refl _ _) m⟩

end Go.Proofs.YtdhnjkcebaahcaaGreatDoor.Parse
