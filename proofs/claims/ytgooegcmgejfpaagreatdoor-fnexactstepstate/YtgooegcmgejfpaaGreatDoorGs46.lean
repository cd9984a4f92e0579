import Derived.Test.YtgooegcmgejfpaaGreatDoorGs03
import Derived.Test.YtgooegcmgejfpaaGreatDoorGs04
import Derived.Test.YtgooegcmgejfpaaGreatDoorGs01
import Derived.Test.YtgooegcmgejfpaaGreatDoorGs16
namespace Go.Proofs.YtgooegcmgejfpaaGreatDoor.MarkS
open Go Go.RowKit Go.Proofs.YtgooegcmgejfpaaGreatDoor.Mem
set_option linter.unusedVariables false
set_option linter.unusedSimpArgs false
attribute [local go_sem ↓] Go.wp_at_zero Go.wp_at_succ

theorem grown_refl (w : World) (r : Option Nat) : w.grownBy w r := ⟨rfl, rfl, rfl, Nat.le_refl _, fun _ _ _ => rfl⟩
theorem grown_set (w : World) (b o : Nat) (u : Value) : w.grownBy (w.setCell ⟨b, o, none⟩ u) (some b) :=
  ⟨rfl, rfl, rfl, by simp [World.setCell], fun k _ hne => Below.heap_setCell _ _ _ _ (fun e => hne (by rw [e]))⟩
theorem there_set1 {w : World} {b o n : Nat} (h : w.there b o n) (b' o' : Nat) (v : Value) : (w.setCell ⟨b', o', none⟩ v).there b o n := World.there_setCells (w := w) h b' o' [v]
theorem there_grown {w w' : World} {b o n : Nat} {r : Option Nat} (h : w.there b o n) (hg : w.grownBy w' r) (hlt : b < w.heap.size) (hne : some b ≠ r) : w'.there b o n := fun j hj => by
  rw [World.cell?_of_block (a := ⟨b, o + j, none⟩) (hg.block b hlt hne), World.frozen?_of_block (a := ⟨b, o + j, none⟩) (hg.block b hlt hne)]; exact h j hj
theorem blk_grown' {w w' : World} {g : Nat} {o : Obj} {row : Option Nat} (h : w.heap[g]? = some o) (hg : w.grownBy w' row) (hne : some g ≠ row) : w'.heap[g]? = some o := by
  rw [hg.block g (by rcases Nat.lt_or_ge g w.heap.size with h1 | h1; exact h1; rw [Array.getElem?_eq_none h1] at h; cases h) hne]; exact h
theorem kept_grown {w W W' : World} {c r : Nat} (h : ∀ g, c < g → g < w.heap.size → W.heap[g]? = w.heap[g]?) (hg : W.grownBy W' (some r)) (hr : r ≤ c) : ∀ g, c < g → g < w.heap.size → W'.heap[g]? = w.heap[g]? := fun g h1 h2 => by
  rw [← h g h1 h2]
  by_cases hs : g < W.heap.size
  · exact hg.block g hs (fun e => by injection e; omega)
  · exfalso
    have := h g h1 h2
    rw [Array.getElem?_eq_none (by omega), Array.getElem?_eq_getElem h2] at this
    cases this

set_option maxHeartbeats 3200000 in
set_option maxRecDepth 100000 in
theorem markInsS (b n cap : Nat) (k : Int) (w : World) (ht0 : w.there b 0 (n * 4)) (hn : n ≤ 1048576) (h0 : 0 ≤ k) (h1 : k ≤ 100000000) :
    Calls Tryz.prog 57 #[.slice (some ⟨b, 0, none⟩) n cap, .int .i64 k] w fun e w' => e = .returned (.int .i64 (k + 4 * n)) ∧ w.grownBy w' (some b) := by
  have HT := Hid.mk ht0
  clear ht0
  go_enter Tryz.func57, Tryz.ntmps57
  go_wp2
  go_loopw [1, 5] (fun kk i wr => ∃ j : Nat, j ≤ n ∧ i = .int .i64 j ∧ kk = .int .i64 (k + 4 * j) ∧ Hid (wr.there b 0 (n * 4)) ∧ Hid (w.grownBy wr (some b))) (fun _ i _ => n - (intOf i).toNat)
  case atStart => exact ⟨0, Nat.zero_le _, rfl, by simp, HT, grown_refl _ _⟩
  case round =>
    obtain ⟨j, hj, rfl, rfl, ht, hg⟩ := hrel
    by_cases hlt : j < n
    · obtain ⟨v0, v1, v2, v3, d0, d1, d2, d3, f0, f1, f2, f3⟩ := there4 (there_part (o' := j * 4) (n' := 4) ht.out (by omega) (by omega))
      go_wp2
      refine ⟨⟨j + 1, by omega, by go_num, by congr 1; omega, ?_, ?_⟩, by simp [intOf]; omega⟩
      · exact (there_set1 (there_set1 (there_set1 (there_set1 ht.out _ _ _) _ _ _) _ _ _) _ _ _)
      · exact ((((hg.out.trans (grown_set _ _ _ _)).trans (grown_set _ _ _ _)).trans (grown_set _ _ _ _)).trans (grown_set _ _ _ _))
    · have hkn : j = n := by omega
      subst hkn
      go_wp2
      go_ret
      exact ⟨rfl, hg.out⟩

set_option maxHeartbeats 3200000 in
set_option maxRecDepth 100000 in
theorem markVehicleS (b n cap : Nat) (k : Int) (w : World) (ht0 : w.there b 0 (n * 7)) (hn : n ≤ 1048576) (h0 : 0 ≤ k) (h1 : k ≤ 100000000) :
    Calls Tryz.prog 58 #[.slice (some ⟨b, 0, none⟩) n cap, .int .i64 k] w fun e w' => e = .returned (.int .i64 (k + 7 * n)) ∧ w.grownBy w' (some b) := by
  have HT := Hid.mk ht0
  clear ht0
  go_enter Tryz.func58, Tryz.ntmps58
  go_wp2
  go_loopw [1, 5] (fun kk i wr => ∃ j : Nat, j ≤ n ∧ i = .int .i64 j ∧ kk = .int .i64 (k + 7 * j) ∧ Hid (wr.there b 0 (n * 7)) ∧ Hid (w.grownBy wr (some b))) (fun _ i _ => n - (intOf i).toNat)
  case atStart => exact ⟨0, Nat.zero_le _, rfl, by simp, HT, grown_refl _ _⟩
  case round =>
    obtain ⟨j, hj, rfl, rfl, ht, hg⟩ := hrel
    by_cases hlt : j < n
    · obtain ⟨v0, v1, v2, v3, v4, v5, v6, d0, d1, d2, d3, d4, d5, d6, f0, f1, f2, f3, f4, f5, f6⟩ := there7 (there_part (o' := j * 7) (n' := 7) ht.out (by omega) (by omega))
      go_wp2
      refine ⟨⟨j + 1, by omega, by go_num, by congr 1; omega, ?_, ?_⟩, by simp [intOf]; omega⟩
      · exact (there_set1 (there_set1 (there_set1 (there_set1 (there_set1 (there_set1 (there_set1 ht.out _ _ _) _ _ _) _ _ _) _ _ _) _ _ _) _ _ _) _ _ _)
      · exact (((((((hg.out.trans (grown_set _ _ _ _)).trans (grown_set _ _ _ _)).trans (grown_set _ _ _ _)).trans (grown_set _ _ _ _)).trans (grown_set _ _ _ _)).trans (grown_set _ _ _ _)).trans (grown_set _ _ _ _))
    · have hkn : j = n := by omega
      subst hkn
      go_wp2
      go_ret
      exact ⟨rfl, hg.out⟩

set_option maxHeartbeats 3200000 in
set_option maxRecDepth 100000 in
theorem markRequestS (b n cap : Nat) (k : Int) (w : World) (ht0 : w.there b 0 (n * 12)) (hn : n ≤ 1048576) (h0 : 0 ≤ k) (h1 : k ≤ 100000000) :
    Calls Tryz.prog 59 #[.slice (some ⟨b, 0, none⟩) n cap, .int .i64 k] w fun e w' => e = .returned (.int .i64 (k + 12 * n)) ∧ w.grownBy w' (some b) := by
  have HT := Hid.mk ht0
  clear ht0
  go_enter Tryz.func59, Tryz.ntmps59
  go_wp2
  go_loopw [1, 5] (fun kk i wr => ∃ j : Nat, j ≤ n ∧ i = .int .i64 j ∧ kk = .int .i64 (k + 12 * j) ∧ Hid (wr.there b 0 (n * 12)) ∧ Hid (w.grownBy wr (some b))) (fun _ i _ => n - (intOf i).toNat)
  case atStart => exact ⟨0, Nat.zero_le _, rfl, by simp, HT, grown_refl _ _⟩
  case round =>
    obtain ⟨j, hj, rfl, rfl, ht, hg⟩ := hrel
    by_cases hlt : j < n
    · obtain ⟨v0, v1, v2, v3, v4, v5, v6, v7, v8, v9, v10, v11, d0, d1, d2, d3, d4, d5, d6, d7, d8, d9, d10, d11, f0, f1, f2, f3, f4, f5, f6, f7, f8, f9, f10, f11⟩ := there12 (there_part (o' := j * 12) (n' := 12) ht.out (by omega) (by omega))
      go_wp2
      refine ⟨⟨j + 1, by omega, by go_num, by congr 1; omega, ?_, ?_⟩, by simp [intOf]; omega⟩
      · exact (there_set1 (there_set1 (there_set1 (there_set1 (there_set1 (there_set1 (there_set1 (there_set1 (there_set1 (there_set1 (there_set1 (there_set1 ht.out _ _ _) _ _ _) _ _ _) _ _ _) _ _ _) _ _ _) _ _ _) _ _ _) _ _ _) _ _ _) _ _ _) _ _ _)
      · exact ((((((((((((hg.out.trans (grown_set _ _ _ _)).trans (grown_set _ _ _ _)).trans (grown_set _ _ _ _)).trans (grown_set _ _ _ _)).trans (grown_set _ _ _ _)).trans (grown_set _ _ _ _)).trans (grown_set _ _ _ _)).trans (grown_set _ _ _ _)).trans (grown_set _ _ _ _)).trans (grown_set _ _ _ _)).trans (grown_set _ _ _ _)).trans (grown_set _ _ _ _))
    · have hkn : j = n := by omega
      subst hkn
      go_wp2
      go_ret
      exact ⟨rfl, hg.out⟩

set_option maxHeartbeats 3200000 in
set_option maxRecDepth 100000 in
theorem markRoadS (b n cap : Nat) (k : Int) (w : World) (ht0 : w.there b 0 (n * 3)) (hn : n ≤ 1048576) (h0 : 0 ≤ k) (h1 : k ≤ 100000000) :
    Calls Tryz.prog 60 #[.slice (some ⟨b, 0, none⟩) n cap, .int .i64 k] w fun e w' => e = .returned (.int .i64 (k + 3 * n)) ∧ w.grownBy w' (some b) := by
  have HT := Hid.mk ht0
  clear ht0
  go_enter Tryz.func60, Tryz.ntmps60
  go_wp2
  go_loopw [1, 5] (fun kk i wr => ∃ j : Nat, j ≤ n ∧ i = .int .i64 j ∧ kk = .int .i64 (k + 3 * j) ∧ Hid (wr.there b 0 (n * 3)) ∧ Hid (w.grownBy wr (some b))) (fun _ i _ => n - (intOf i).toNat)
  case atStart => exact ⟨0, Nat.zero_le _, rfl, by simp, HT, grown_refl _ _⟩
  case round =>
    obtain ⟨j, hj, rfl, rfl, ht, hg⟩ := hrel
    by_cases hlt : j < n
    · obtain ⟨v0, v1, v2, d0, d1, d2, f0, f1, f2⟩ := there3 (there_part (o' := j * 3) (n' := 3) ht.out (by omega) (by omega))
      go_wp2
      refine ⟨⟨j + 1, by omega, by go_num, by congr 1; omega, ?_, ?_⟩, by simp [intOf]; omega⟩
      · exact (there_set1 (there_set1 (there_set1 ht.out _ _ _) _ _ _) _ _ _)
      · exact (((hg.out.trans (grown_set _ _ _ _)).trans (grown_set _ _ _ _)).trans (grown_set _ _ _ _))
    · have hkn : j = n := by omega
      subst hkn
      go_wp2
      go_ret
      exact ⟨rfl, hg.out⟩

set_option maxHeartbeats 3200000 in
set_option maxRecDepth 100000 in
theorem markInt64S (b n cap : Nat) (k : Int) (w : World) (ht0 : w.there b 0 (n * 1)) (hn : n ≤ 1048576) (h0 : 0 ≤ k) (h1 : k ≤ 100000000) :
    Calls Tryz.prog 61 #[.slice (some ⟨b, 0, none⟩) n cap, .int .i64 k] w fun e w' => e = .returned (.int .i64 (k + 1 * n)) ∧ w.grownBy w' (some b) := by
  have HT := Hid.mk ht0
  clear ht0
  go_enter Tryz.func61, Tryz.ntmps61
  go_wp2
  go_loopw [1, 5] (fun kk i wr => ∃ j : Nat, j ≤ n ∧ i = .int .i64 j ∧ kk = .int .i64 (k + 1 * j) ∧ Hid (wr.there b 0 (n * 1)) ∧ Hid (w.grownBy wr (some b))) (fun _ i _ => n - (intOf i).toNat)
  case atStart => exact ⟨0, Nat.zero_le _, rfl, by simp, HT, grown_refl _ _⟩
  case round =>
    obtain ⟨j, hj, rfl, rfl, ht, hg⟩ := hrel
    by_cases hlt : j < n
    · obtain ⟨v0, d0, f0⟩ := there1 (there_part (o' := j) (n' := 1) ht.out (by omega) (by omega))
      go_wp2
      refine ⟨⟨j + 1, by omega, by go_num, by congr 1; omega, ?_, ?_⟩, by simp [intOf]; omega⟩
      · exact (there_set1 ht.out _ _ _)
      · exact (hg.out.trans (grown_set _ _ _ _))
    · have hkn : j = n := by omega
      subst hkn
      go_wp2
      go_ret
      exact ⟨rfl, hg.out⟩

set_option maxHeartbeats 3200000 in
set_option maxRecDepth 100000 in
theorem markCode (b1 b2 b3 n1 n2 n3 c1 c2 c3 : Nat) (x0 x1 : Int) (k : Int) (w : World) (t1 : w.there b1 0 (n1 * 4)) (t2 : w.there b2 0 (n2 * 4)) (t3 : w.there b3 0 (n3 * 4)) (l1 : b1 < b2) (l2 : b2 < b3) (l3 : b3 < w.heap.size) (h1 : n1 ≤ 1048576) (h2 : n2 ≤ 1048576) (h3 : n3 ≤ 1048576) (k0 : 0 ≤ k) (k1 : k ≤ 70000000) :
    Calls Tryz.prog 16 #[.agg #[.int .i64 x0, .int .i64 x1, .slice (some ⟨b1, 0, none⟩) n1 c1, .slice (some ⟨b2, 0, none⟩) n2 c2, .slice (some ⟨b3, 0, none⟩) n3 c3], .int .i64 k] w fun e w' => ∃ r : Int, e = .returned (.int .i64 r) ∧ 0 ≤ r ∧ r ≤ k + 30000000 ∧ Below b1 w w' ∧ ∀ g, b3 < g → g < w.heap.size → w'.heap[g]? = w.heap[g]? := by
  have hb0 : Below b1 w (w.alloc (.cells #[.int .i64 x0, .int .i64 x1, .slice (some ⟨b1, 0, none⟩) n1 c1, .slice (some ⟨b2, 0, none⟩) n2 c2, .slice (some ⟨b3, 0, none⟩) n3 c3] 38)) := (Below.refl _ _).alloc (by omega) _
  have hk0 : ∀ g, b3 < g → g < w.heap.size → (w.alloc (.cells #[.int .i64 x0, .int .i64 x1, .slice (some ⟨b1, 0, none⟩) n1 c1, .slice (some ⟨b2, 0, none⟩) n2 c2, .slice (some ⟨b3, 0, none⟩) n3 c3] 38)).heap[g]? = w.heap[g]? := fun g _ hg => Below.heap_alloc _ _ _ hg
  have HB0 := Hid.mk hb0
  have HK0 := Hid.mk hk0
  have T1 := Hid.mk (there_below t1 (show b1 < w.heap.size by omega) (below_alloc' (Below.refl _ _) (.cells #[.int .i64 x0, .int .i64 x1, .slice (some ⟨b1, 0, none⟩) n1 c1, .slice (some ⟨b2, 0, none⟩) n2 c2, .slice (some ⟨b3, 0, none⟩) n3 c3] 38)))
  have T2 := Hid.mk (there_below t2 (show b2 < w.heap.size by omega) (below_alloc' (Below.refl _ _) (.cells #[.int .i64 x0, .int .i64 x1, .slice (some ⟨b1, 0, none⟩) n1 c1, .slice (some ⟨b2, 0, none⟩) n2 c2, .slice (some ⟨b3, 0, none⟩) n3 c3] 38)))
  have T3 := Hid.mk (there_below t3 l3 (below_alloc' (Below.refl _ _) (.cells #[.int .i64 x0, .int .i64 x1, .slice (some ⟨b1, 0, none⟩) n1 c1, .slice (some ⟨b2, 0, none⟩) n2 c2, .slice (some ⟨b3, 0, none⟩) n3 c3] 38)))
  clear t1 t2 t3 hb0 hk0
  have hne : ∀ {x y : Nat}, x ≠ y → some x ≠ some y := fun h e => h (Option.some.inj e)
  go_enter Tryz.func16, Tryz.ntmps16
  go_wp2_with fail
  refine (markInsS b1 n1 c1 k _ T1.out h1 k0 (by omega)).mono ?_
  rintro e w1 ⟨rfl, g1⟩
  have z1 : w.heap.size + 1 ≤ w1.heap.size := by have := g1.size; simpa using this
  have A1 := Hid.mk (blk_grown' (blk_new w _) g1 (hne (by omega)))
  have U2 := Hid.mk (there_grown T2.out g1 (by simp; omega) (hne (by omega)))
  have U3 := Hid.mk (there_grown T3.out g1 (by simp; omega) (hne (by omega)))
  have HB1 := Hid.mk (HB0.out.grown g1 (by simp; omega) (fun r hr => by injection hr with hr; omega))
  have HK1 := Hid.mk (kept_grown HK0.out g1 (by omega))
  clear T1 T2 T3 HB0 HK0 g1
  have x1 := blk_cell A1.out 3
  simp only [List.getElem?_toArray, List.getElem?_cons_zero, List.getElem?_cons_succ] at x1
  go_wp2_with fail
  clear x1
  refine (markInsS b2 n2 c2 _ _ U2.out h2 (by omega) (by omega)).mono ?_
  rintro e w2 ⟨rfl, g2⟩
  have z2 : w.heap.size + 1 ≤ w2.heap.size := Nat.le_trans z1 g2.size
  have A2 := Hid.mk (blk_grown' A1.out g2 (hne (by omega)))
  have V3 := Hid.mk (there_grown U3.out g2 (by omega) (hne (by omega)))
  have HB2 := Hid.mk (HB1.out.grown g2 (by omega) (fun r hr => by injection hr with hr; omega))
  have HK2 := Hid.mk (kept_grown HK1.out g2 (by omega))
  clear U2 U3 HB1 HK1 g2 A1
  have x1 := blk_cell A2.out 4
  simp only [List.getElem?_toArray, List.getElem?_cons_zero, List.getElem?_cons_succ] at x1
  go_wp2_with fail
  clear x1
  refine (markInsS b3 n3 c3 _ _ V3.out h3 (by omega) (by omega)).mono ?_
  rintro e w3 ⟨rfl, g3⟩
  have HB3 := Hid.mk (HB2.out.grown g3 (by omega) (fun r hr => by injection hr with hr; omega))
  have HK3 := Hid.mk (kept_grown HK2.out g3 (by omega))
  clear V3 HB2 HK2 g3 A2
  go_wp2
  go_ret
  exact ⟨_, rfl, by omega, by omega, HB3.out, HK3.out⟩

set_option maxHeartbeats 3200000 in
set_option maxRecDepth 100000 in
theorem markInst (b1 b2 b3 n1 n2 n3 c1 c2 c3 : Nat) (k : Int) (w : World) (t1 : w.there b1 0 (n1 * 7)) (t2 : w.there b2 0 (n2 * 12)) (t3 : w.there b3 0 (n3 * 3)) (l1 : b1 < b2) (l2 : b2 < b3) (l3 : b3 < w.heap.size) (h1 : n1 ≤ 1048576) (h2 : n2 ≤ 1048576) (h3 : n3 ≤ 1048576) (k0 : 0 ≤ k) (k1 : k ≤ 70000000) :
    Calls Tryz.prog 17 #[.agg #[.slice (some ⟨b1, 0, none⟩) n1 c1, .slice (some ⟨b2, 0, none⟩) n2 c2, .slice (some ⟨b3, 0, none⟩) n3 c3], .int .i64 k] w fun e w' => ∃ r : Int, e = .returned (.int .i64 r) ∧ 0 ≤ r ∧ r ≤ k + 30000000 ∧ Below b1 w w' ∧ ∀ g, b3 < g → g < w.heap.size → w'.heap[g]? = w.heap[g]? := by
  have hb0 : Below b1 w (w.alloc (.cells #[.slice (some ⟨b1, 0, none⟩) n1 c1, .slice (some ⟨b2, 0, none⟩) n2 c2, .slice (some ⟨b3, 0, none⟩) n3 c3] 44)) := (Below.refl _ _).alloc (by omega) _
  have hk0 : ∀ g, b3 < g → g < w.heap.size → (w.alloc (.cells #[.slice (some ⟨b1, 0, none⟩) n1 c1, .slice (some ⟨b2, 0, none⟩) n2 c2, .slice (some ⟨b3, 0, none⟩) n3 c3] 44)).heap[g]? = w.heap[g]? := fun g _ hg => Below.heap_alloc _ _ _ hg
  have HB0 := Hid.mk hb0
  have HK0 := Hid.mk hk0
  have T1 := Hid.mk (there_below t1 (show b1 < w.heap.size by omega) (below_alloc' (Below.refl _ _) (.cells #[.slice (some ⟨b1, 0, none⟩) n1 c1, .slice (some ⟨b2, 0, none⟩) n2 c2, .slice (some ⟨b3, 0, none⟩) n3 c3] 44)))
  have T2 := Hid.mk (there_below t2 (show b2 < w.heap.size by omega) (below_alloc' (Below.refl _ _) (.cells #[.slice (some ⟨b1, 0, none⟩) n1 c1, .slice (some ⟨b2, 0, none⟩) n2 c2, .slice (some ⟨b3, 0, none⟩) n3 c3] 44)))
  have T3 := Hid.mk (there_below t3 l3 (below_alloc' (Below.refl _ _) (.cells #[.slice (some ⟨b1, 0, none⟩) n1 c1, .slice (some ⟨b2, 0, none⟩) n2 c2, .slice (some ⟨b3, 0, none⟩) n3 c3] 44)))
  clear t1 t2 t3 hb0 hk0
  have hne : ∀ {x y : Nat}, x ≠ y → some x ≠ some y := fun h e => h (Option.some.inj e)
  go_enter Tryz.func17, Tryz.ntmps17
  go_wp2_with fail
  refine (markVehicleS b1 n1 c1 k _ T1.out h1 k0 (by omega)).mono ?_
  rintro e w1 ⟨rfl, g1⟩
  have z1 : w.heap.size + 1 ≤ w1.heap.size := by have := g1.size; simpa using this
  have A1 := Hid.mk (blk_grown' (blk_new w _) g1 (hne (by omega)))
  have U2 := Hid.mk (there_grown T2.out g1 (by simp; omega) (hne (by omega)))
  have U3 := Hid.mk (there_grown T3.out g1 (by simp; omega) (hne (by omega)))
  have HB1 := Hid.mk (HB0.out.grown g1 (by simp; omega) (fun r hr => by injection hr with hr; omega))
  have HK1 := Hid.mk (kept_grown HK0.out g1 (by omega))
  clear T1 T2 T3 HB0 HK0 g1
  have x1 := blk_cell A1.out 1
  simp only [List.getElem?_toArray, List.getElem?_cons_zero, List.getElem?_cons_succ] at x1
  go_wp2_with fail
  clear x1
  refine (markRequestS b2 n2 c2 _ _ U2.out h2 (by omega) (by omega)).mono ?_
  rintro e w2 ⟨rfl, g2⟩
  have z2 : w.heap.size + 1 ≤ w2.heap.size := Nat.le_trans z1 g2.size
  have A2 := Hid.mk (blk_grown' A1.out g2 (hne (by omega)))
  have V3 := Hid.mk (there_grown U3.out g2 (by omega) (hne (by omega)))
  have HB2 := Hid.mk (HB1.out.grown g2 (by omega) (fun r hr => by injection hr with hr; omega))
  have HK2 := Hid.mk (kept_grown HK1.out g2 (by omega))
  clear U2 U3 HB1 HK1 g2 A1
  have x1 := blk_cell A2.out 2
  simp only [List.getElem?_toArray, List.getElem?_cons_zero, List.getElem?_cons_succ] at x1
  go_wp2_with fail
  clear x1
  refine (markRoadS b3 n3 c3 _ _ V3.out h3 (by omega) (by omega)).mono ?_
  rintro e w3 ⟨rfl, g3⟩
  have HB3 := Hid.mk (HB2.out.grown g3 (by omega) (fun r hr => by injection hr with hr; omega))
  have HK3 := Hid.mk (kept_grown HK2.out g3 (by omega))
  clear V3 HB2 HK2 g3 A2
  go_wp2
  go_ret
  exact ⟨_, rfl, by omega, by omega, HB3.out, HK3.out⟩

set_option maxHeartbeats 3200000 in
set_option maxRecDepth 100000 in
theorem markState (b1 b2 b3 n1 n2 n3 c1 c2 c3 : Nat) (x0 x1 x2 x3 x4 x5 : Int) (k : Int) (w : World) (t1 : w.there b1 0 (n1 * 1)) (t2 : w.there b2 0 (n2 * 1)) (t3 : w.there b3 0 (n3 * 1)) (l1 : b1 < b2) (l2 : b2 < b3) (l3 : b3 < w.heap.size) (h1 : n1 ≤ 1048576) (h2 : n2 ≤ 1048576) (h3 : n3 ≤ 1048576) (k0 : 0 ≤ k) (k1 : k ≤ 70000000) :
    Calls Tryz.prog 18 #[.agg #[.int .i64 x0, .int .i64 x1, .int .i64 x2, .int .i64 x3, .int .i64 x4, .int .i64 x5, .slice (some ⟨b1, 0, none⟩) n1 c1, .slice (some ⟨b2, 0, none⟩) n2 c2, .slice (some ⟨b3, 0, none⟩) n3 c3], .int .i64 k] w fun e w' => ∃ r : Int, e = .returned (.int .i64 r) ∧ 0 ≤ r ∧ r ≤ k + 30000000 ∧ Below b1 w w' ∧ ∀ g, b3 < g → g < w.heap.size → w'.heap[g]? = w.heap[g]? := by
  have hb0 : Below b1 w (w.alloc (.cells #[.int .i64 x0, .int .i64 x1, .int .i64 x2, .int .i64 x3, .int .i64 x4, .int .i64 x5, .slice (some ⟨b1, 0, none⟩) n1 c1, .slice (some ⟨b2, 0, none⟩) n2 c2, .slice (some ⟨b3, 0, none⟩) n3 c3] 34)) := (Below.refl _ _).alloc (by omega) _
  have hk0 : ∀ g, b3 < g → g < w.heap.size → (w.alloc (.cells #[.int .i64 x0, .int .i64 x1, .int .i64 x2, .int .i64 x3, .int .i64 x4, .int .i64 x5, .slice (some ⟨b1, 0, none⟩) n1 c1, .slice (some ⟨b2, 0, none⟩) n2 c2, .slice (some ⟨b3, 0, none⟩) n3 c3] 34)).heap[g]? = w.heap[g]? := fun g _ hg => Below.heap_alloc _ _ _ hg
  have HB0 := Hid.mk hb0
  have HK0 := Hid.mk hk0
  have T1 := Hid.mk (there_below t1 (show b1 < w.heap.size by omega) (below_alloc' (Below.refl _ _) (.cells #[.int .i64 x0, .int .i64 x1, .int .i64 x2, .int .i64 x3, .int .i64 x4, .int .i64 x5, .slice (some ⟨b1, 0, none⟩) n1 c1, .slice (some ⟨b2, 0, none⟩) n2 c2, .slice (some ⟨b3, 0, none⟩) n3 c3] 34)))
  have T2 := Hid.mk (there_below t2 (show b2 < w.heap.size by omega) (below_alloc' (Below.refl _ _) (.cells #[.int .i64 x0, .int .i64 x1, .int .i64 x2, .int .i64 x3, .int .i64 x4, .int .i64 x5, .slice (some ⟨b1, 0, none⟩) n1 c1, .slice (some ⟨b2, 0, none⟩) n2 c2, .slice (some ⟨b3, 0, none⟩) n3 c3] 34)))
  have T3 := Hid.mk (there_below t3 l3 (below_alloc' (Below.refl _ _) (.cells #[.int .i64 x0, .int .i64 x1, .int .i64 x2, .int .i64 x3, .int .i64 x4, .int .i64 x5, .slice (some ⟨b1, 0, none⟩) n1 c1, .slice (some ⟨b2, 0, none⟩) n2 c2, .slice (some ⟨b3, 0, none⟩) n3 c3] 34)))
  clear t1 t2 t3 hb0 hk0
  have hne : ∀ {x y : Nat}, x ≠ y → some x ≠ some y := fun h e => h (Option.some.inj e)
  go_enter Tryz.func18, Tryz.ntmps18
  go_wp2_with fail
  refine (markInt64S b1 n1 c1 k _ T1.out h1 k0 (by omega)).mono ?_
  rintro e w1 ⟨rfl, g1⟩
  have z1 : w.heap.size + 1 ≤ w1.heap.size := by have := g1.size; simpa using this
  have A1 := Hid.mk (blk_grown' (blk_new w _) g1 (hne (by omega)))
  have U2 := Hid.mk (there_grown T2.out g1 (by simp; omega) (hne (by omega)))
  have U3 := Hid.mk (there_grown T3.out g1 (by simp; omega) (hne (by omega)))
  have HB1 := Hid.mk (HB0.out.grown g1 (by simp; omega) (fun r hr => by injection hr with hr; omega))
  have HK1 := Hid.mk (kept_grown HK0.out g1 (by omega))
  clear T1 T2 T3 HB0 HK0 g1
  have x1 := blk_cell A1.out 7
  simp only [List.getElem?_toArray, List.getElem?_cons_zero, List.getElem?_cons_succ] at x1
  go_wp2_with fail
  clear x1
  refine (markInt64S b2 n2 c2 _ _ U2.out h2 (by omega) (by omega)).mono ?_
  rintro e w2 ⟨rfl, g2⟩
  have z2 : w.heap.size + 1 ≤ w2.heap.size := Nat.le_trans z1 g2.size
  have A2 := Hid.mk (blk_grown' A1.out g2 (hne (by omega)))
  have V3 := Hid.mk (there_grown U3.out g2 (by omega) (hne (by omega)))
  have HB2 := Hid.mk (HB1.out.grown g2 (by omega) (fun r hr => by injection hr with hr; omega))
  have HK2 := Hid.mk (kept_grown HK1.out g2 (by omega))
  clear U2 U3 HB1 HK1 g2 A1
  have x1 := blk_cell A2.out 8
  simp only [List.getElem?_toArray, List.getElem?_cons_zero, List.getElem?_cons_succ] at x1
  go_wp2_with fail
  clear x1
  refine (markInt64S b3 n3 c3 _ _ V3.out h3 (by omega) (by omega)).mono ?_
  rintro e w3 ⟨rfl, g3⟩
  have HB3 := Hid.mk (HB2.out.grown g3 (by omega) (fun r hr => by injection hr with hr; omega))
  have HK3 := Hid.mk (kept_grown HK2.out g3 (by omega))
  clear V3 HB2 HK2 g3 A2
  go_wp2
  go_ret
  exact ⟨_, rfl, by omega, by omega, HB3.out, HK3.out⟩

/-- The block that a mark may change: none where the list is empty. -/
def own (n g : Nat) : Option Nat := if n = 0 then none else some g
theorem own_ne {n g x : Nat} (h : n ≠ 0 → x ≠ g) : some x ≠ own n g := by
  unfold own
  split
  · intro e; cases e
  · intro e; exact h (by assumption) (Option.some.inj e)
/-- Marks from k on. -/
def Mkd (w : World) (g n : Nat) (k : Int) : Prop := ∀ i, i < n → w.cell? ⟨g, i, none⟩ = some (.int .i64 (k + (i : Int)))
theorem Mkd.gb {w w' : World} {g n : Nat} {k : Int} {r : Option Nat} (h : Mkd w g n k) (hg : w.grownBy w' r) (hne : n ≠ 0 → some g ≠ r) : Mkd w' g n k := fun i hi => by
  rw [World.cell?_of_block (a := ⟨g, i, none⟩) (hg.block g (World.block_lt_of_cell? w _ (h i hi)) (hne (by omega)))]; exact h i hi
theorem Mkd.below {w w' : World} {g n : Nat} {k : Int} (h : Mkd w g n k) (hb : Below w.heap.size w w') : Mkd w' g n k := fun i hi => by
  rw [hb.cell (p := ⟨g, i, none⟩) (World.block_lt_of_cell? w _ (h i hi))]; exact h i hi
theorem there_lt {w : World} {g n : Nat} (h : w.there g 0 n) (hn : n ≠ 0) : g < w.heap.size := by
  obtain ⟨v, hv⟩ := Option.isSome_iff_exists.1 (h 0 (by omega)).1
  exact World.block_lt_of_cell? w _ hv
theorem there_gb {w w' : World} {g n : Nat} {r : Option Nat} (h : w.there g 0 n) (hg : w.grownBy w' r) (hne : n ≠ 0 → some g ≠ r) : w'.there g 0 n := fun j hj => by
  have hb := hg.block g (there_lt h (by omega)) (hne (by omega))
  rw [World.cell?_of_block (a := ⟨g, 0 + j, none⟩) hb, World.frozen?_of_block (a := ⟨g, 0 + j, none⟩) hb]; exact h j hj
theorem there_bel {w w' : World} {g n : Nat} (h : w.there g 0 n) (hb : Below w.heap.size w w') : w'.there g 0 n := fun j hj => there_below h (there_lt h (by omega)) hb j hj
theorem gb_low {B : Nat} {w w' : World} {n g : Nat} (hg : w.grownBy w' (own n g)) (hB : B ≤ w.heap.size) (hne : B ≤ g) : Below B w w' :=
  ⟨hg.os, hg.tape, hg.output, hg.size, fun k hk => hg.block k (by omega) (own_ne fun _ => by omega)⟩
set_option maxHeartbeats 3200000 in
set_option maxRecDepth 100000 in
theorem markIntP (a : Option Addr) (n c g : Nat) (k : Int) (w : World) (ha : n = 0 ∨ a = some ⟨g, 0, none⟩) (ht0 : w.there g 0 n) (hn : n ≤ 1048576) (h0 : 0 ≤ k) (h1 : k ≤ 100000000) :
    Calls Tryz.prog 61 #[.slice a n c, .int .i64 k] w fun e w' => e = .returned (.int .i64 (k + n)) ∧ Mkd w' g n k ∧ w.grownBy w' (own n g) := by
  by_cases hz : n = 0
  · subst hz
    clear ha ht0
    go_enter Tryz.func61, Tryz.ntmps61
    go_wp2
    go_loopw [1, 5] (fun kk i wr => i = .int .i64 0 ∧ kk = .int .i64 k ∧ wr = w) (fun _ i _ => 0)
    case atStart => exact ⟨rfl, rfl, rfl⟩
    case round =>
      obtain ⟨rfl, rfl, rfl⟩ := hrel
      go_wp2
      go_ret
      exact ⟨by simp, fun i hi => absurd hi (Nat.not_lt_zero _), grown_refl _ _⟩
  obtain rfl : a = some ⟨g, 0, none⟩ := by
    rcases ha with h | h
    · exact absurd h hz
    · exact h
  have HT := Hid.mk ht0
  clear ht0 ha
  go_enter Tryz.func61, Tryz.ntmps61
  go_wp2
  go_loopw [1, 5] (fun kk i wr => ∃ j : Nat, j ≤ n ∧ i = .int .i64 j ∧ kk = .int .i64 (k + j) ∧ Hid (wr.there g 0 n) ∧ Hid (Mkd wr g j k) ∧ Hid (w.grownBy wr (some g))) (fun _ i _ => n - (intOf i).toNat)
  case atStart => exact ⟨0, Nat.zero_le _, rfl, by simp, HT, fun i hi => absurd hi (Nat.not_lt_zero _), grown_refl _ _⟩
  case round =>
    obtain ⟨j, hj, rfl, rfl, ht, hm, hg⟩ := hrel
    by_cases hlt : j < n
    · obtain ⟨v0, d0, f0⟩ := there1 (there_part (o' := j) (n' := 1) ht.out (by omega) (by omega))
      go_wp2
      refine ⟨⟨j + 1, by omega, by go_num, by congr 1; omega, there_set1 ht.out _ _ _, fun x hx => ?_, hg.out.trans (grown_set _ _ _ _)⟩, by simp [intOf]; omega⟩
      by_cases e : x = j
      · subst e
        exact World.cell?_setCell_same _ _ _ d0
      · rw [World.cell?_setCell_other _ _ _ _ (by intro h; injection h; omega)]
        exact hm.out x (by omega)
    · have hkn : j = n := by omega
      subst hkn
      go_wp2
      go_ret
      exact ⟨rfl, hm.out, by unfold own; rw [if_neg hz]; exact hg.out⟩
set_option maxHeartbeats 3200000 in
set_option maxRecDepth 100000 in
theorem heldIntP (a : Option Addr) (n c g : Nat) (k : Int) (w : World) (ha : n = 0 ∨ a = some ⟨g, 0, none⟩) (hm : Mkd w g n k) (hn : n ≤ 1048576) (h0 : 0 ≤ k) (h1 : k ≤ 100000000) :
    Calls Tryz.prog 62 #[.slice a n c, .int .i64 k] w fun e w' => e = .returned (.int .i64 (k + n)) ∧ w' = w := by
  by_cases hz : n = 0
  · subst hz
    clear ha hm
    go_enter Tryz.func62, Tryz.ntmps62
    go_wp2
    go_loopw [1, 5] (fun kk i wr => i = .int .i64 0 ∧ kk = .int .i64 k ∧ wr = w) (fun _ i _ => 0)
    case atStart => exact ⟨rfl, rfl, rfl⟩
    case round =>
      obtain ⟨rfl, rfl, rfl⟩ := hrel
      go_wp2
      go_ret
      exact ⟨by simp, rfl⟩
  obtain rfl : a = some ⟨g, 0, none⟩ := by
    rcases ha with h | h
    · exact absurd h hz
    · exact h
  have HM := Hid.mk hm
  clear hm ha
  go_enter Tryz.func62, Tryz.ntmps62
  go_wp2
  go_loopw [1, 5] (fun kk i wr => wr = w ∧ ∃ j : Nat, j ≤ n ∧ i = .int .i64 j ∧ kk = .int .i64 (k + j)) (fun _ i _ => n - (intOf i).toNat)
  case atStart => exact ⟨rfl, 0, Nat.zero_le _, rfl, by simp⟩
  case round =>
    obtain ⟨rfl, j, hj, rfl, rfl⟩ := hrel
    by_cases hlt : j < n
    · have d0 := HM.out j hlt
      go_wp2
      exact ⟨⟨by first | exact trivial | rfl, j + 1, by omega, by go_num, by congr 1; omega⟩, by simp [intOf]; omega⟩
    · have hkn : j = n := by omega
      subst hkn
      go_wp2
      go_ret
      exact ⟨rfl, rfl⟩

set_option maxHeartbeats 3200000 in
theorem markStateP (B : Nat) (a1 a2 a3 : Option Addr) (c1 c2 c3 n1 n2 n3 g1 g2 g3 : Nat) (x0 x1 x2 x3 x4 x5 : Int) (w : World) (ha1 : n1 = 0 ∨ a1 = some ⟨g1, 0, none⟩) (ha2 : n2 = 0 ∨ a2 = some ⟨g2, 0, none⟩) (ha3 : n3 = 0 ∨ a3 = some ⟨g3, 0, none⟩) (t1 : w.there g1 0 n1) (t2 : w.there g2 0 n2) (t3 : w.there g3 0 n3) (ap1 : g1 ≠ g2) (ap2 : g1 ≠ g3) (ap3 : g2 ≠ g3) (hB1 : B ≤ g1) (hB2 : B ≤ g2) (hB3 : B ≤ g3) (hB : B ≤ w.heap.size) (l1 : n1 ≤ 1048576) (l2 : n2 ≤ 1048576) (l3 : n3 ≤ 1048576) :
    Calls Tryz.prog 18 #[.agg #[.int .i64 x0, .int .i64 x1, .int .i64 x2, .int .i64 x3, .int .i64 x4, .int .i64 x5, .slice a1 n1 c1, .slice a2 n2 c2, .slice a3 n3 c3], .int .i64 1] w fun e w' => e = .returned (.int .i64 (1 + n1 + n2 + n3)) ∧ Mkd w' g1 n1 1 ∧ Mkd w' g2 n2 (1 + n1) ∧ Mkd w' g3 n3 (1 + n1 + n2) ∧ Below B w w' ∧ (∀ x, x < w.heap.size → (n1 ≠ 0 → x ≠ g1) → (n2 ≠ 0 → x ≠ g2) → (n3 ≠ 0 → x ≠ g3) → w'.heap[x]? = w.heap[x]?) := by
  have p1 := Hid.mk (fun h => there_lt t1 h)
  have p2 := Hid.mk (fun h => there_lt t2 h)
  have p3 := Hid.mk (fun h => there_lt t3 h)
  have H1 := Hid.mk ha1
  have H2 := Hid.mk ha2
  have H3 := Hid.mk ha3
  have T1 := Hid.mk t1
  have T2 := Hid.mk t2
  have T3 := Hid.mk t3
  clear t1 t2 t3 ha1 ha2 ha3
  go_enter Tryz.func18, Tryz.ntmps18
  go_wp2_with fail
  obtain ⟨W, hW⟩ : ∃ W : World, W = w.alloc (.cells #[.int .i64 x0, .int .i64 x1, .int .i64 x2, .int .i64 x3, .int .i64 x4, .int .i64 x5, .slice a1 n1 c1, .slice a2 n2 c2, .slice a3 n3 c3] 34) := ⟨_, rfl⟩
  rw [← hW]
  have BW : Hid (Below w.heap.size w W) := by unfold Hid; rw [hW]; go_grown
  have A0 : Hid (W.heap[w.heap.size]? = some (.cells #[.int .i64 x0, .int .i64 x1, .int .i64 x2, .int .i64 x3, .int .i64 x4, .int .i64 x5, .slice a1 n1 c1, .slice a2 n2 c2, .slice a3 n3 c3] 34)) := by unfold Hid; rw [hW]; exact blk_new w _
  clear hW
  have hs0 := BW.out.size
  have T1 := Hid.mk (there_bel T1.out BW.out)
  have T2 := Hid.mk (there_bel T2.out BW.out)
  have T3 := Hid.mk (there_bel T3.out BW.out)
  refine (markIntP a1 n1 c1 g1 1 W H1.out T1.out l1 (by omega) (by omega)).mono ?_
  rintro e w1 ⟨rfl, m1, q1⟩
  have A1 := Hid.mk (blk_grown' A0.out q1 (own_ne fun h => by have := p1.out h; omega))
  have M1 := Hid.mk m1
  have T2 := Hid.mk (there_gb T2.out q1 fun _ => own_ne fun _ => by omega)
  have T3 := Hid.mk (there_gb T3.out q1 fun _ => own_ne fun _ => by omega)
  have B1 : Hid (Below B w w1) := (BW.out.mono hB).trans (gb_low q1 (by omega) hB1)
  have z1 := q1.size
  have K1 : Hid (∀ x, x < w.heap.size → (n1 ≠ 0 → x ≠ g1) → (n2 ≠ 0 → x ≠ g2) → (n3 ≠ 0 → x ≠ g3) → w1.heap[x]? = w.heap[x]?) := fun x hx h1 _ _ => (q1.block x (by omega) (own_ne h1)).trans (BW.out.block x hx)
  clear m1 q1 A0 BW T1
  have k1 := blk_cell A1.out 7
  simp only [List.getElem?_toArray, List.getElem?_cons_zero, List.getElem?_cons_succ] at k1
  go_wp2_with fail
  clear k1
  refine (markIntP a2 n2 c2 g2 (1 + n1) w1 H2.out T2.out l2 (by omega) (by omega)).mono ?_
  rintro e w2 ⟨rfl, m2, q2⟩
  have A2 := Hid.mk (blk_grown' A1.out q2 (own_ne fun h => by have := p2.out h; omega))
  have M2 := Hid.mk m2
  have M1 := Hid.mk (M1.out.gb q2 fun _ => own_ne fun _ => by omega)
  have T3 := Hid.mk (there_gb T3.out q2 fun _ => own_ne fun _ => by omega)
  have B2 : Hid (Below B w w2) := B1.out.trans (gb_low q2 (by omega) hB2)
  have z2 := q2.size
  have K2 : Hid (∀ x, x < w.heap.size → (n1 ≠ 0 → x ≠ g1) → (n2 ≠ 0 → x ≠ g2) → (n3 ≠ 0 → x ≠ g3) → w2.heap[x]? = w.heap[x]?) := fun x hx h1 h2 h3 => (q2.block x (by omega) (own_ne h2)).trans (K1.out x hx h1 h2 h3)
  clear m2 q2 A1 B1 T2 K1
  have k1 := blk_cell A2.out 8
  simp only [List.getElem?_toArray, List.getElem?_cons_zero, List.getElem?_cons_succ] at k1
  go_wp2_with fail
  clear k1
  refine (markIntP a3 n3 c3 g3 (1 + n1 + n2) w2 H3.out T3.out l3 (by omega) (by omega)).mono ?_
  rintro e w3 ⟨rfl, m3, q3⟩
  have M3 := Hid.mk m3
  have M1 := Hid.mk (M1.out.gb q3 fun _ => own_ne fun _ => by omega)
  have M2 := Hid.mk (M2.out.gb q3 fun _ => own_ne fun _ => by omega)
  have B3 : Hid (Below B w w3) := B2.out.trans (gb_low q3 (by omega) hB3)
  have K3 : Hid (∀ x, x < w.heap.size → (n1 ≠ 0 → x ≠ g1) → (n2 ≠ 0 → x ≠ g2) → (n3 ≠ 0 → x ≠ g3) → w3.heap[x]? = w.heap[x]?) := fun x hx h1 h2 h3 => (q3.block x (by omega) (own_ne h3)).trans (K2.out x hx h1 h2 h3)
  clear m3 q3 A2 B2 T3 K2
  go_wp2
  go_ret
  exact ⟨rfl, M1.out, M2.out, M3.out, B3.out, K3.out⟩
set_option maxHeartbeats 3200000 in
theorem heldStateP (a1 a2 a3 : Option Addr) (c1 c2 c3 n1 n2 n3 g1 g2 g3 : Nat) (x0 x1 x2 x3 x4 x5 : Int) (w : World) (ha1 : n1 = 0 ∨ a1 = some ⟨g1, 0, none⟩) (ha2 : n2 = 0 ∨ a2 = some ⟨g2, 0, none⟩) (ha3 : n3 = 0 ∨ a3 = some ⟨g3, 0, none⟩) (m1 : Mkd w g1 n1 1) (m2 : Mkd w g2 n2 (1 + n1)) (m3 : Mkd w g3 n3 (1 + n1 + n2)) (l1 : n1 ≤ 1048576) (l2 : n2 ≤ 1048576) (l3 : n3 ≤ 1048576) :
    Calls Tryz.prog 19 #[.agg #[.int .i64 x0, .int .i64 x1, .int .i64 x2, .int .i64 x3, .int .i64 x4, .int .i64 x5, .slice a1 n1 c1, .slice a2 n2 c2, .slice a3 n3 c3], .int .i64 1] w fun e w' => e = .returned (.int .i64 (1 + n1 + n2 + n3)) ∧ Below w.heap.size w w' := by
  have H1 := Hid.mk ha1
  have H2 := Hid.mk ha2
  have H3 := Hid.mk ha3
  have M1 := Hid.mk m1
  have M2 := Hid.mk m2
  have M3 := Hid.mk m3
  clear m1 m2 m3 ha1 ha2 ha3
  go_enter Tryz.func19, Tryz.ntmps19
  go_wp2_with fail
  obtain ⟨W, hW⟩ : ∃ W : World, W = w.alloc (.cells #[.int .i64 x0, .int .i64 x1, .int .i64 x2, .int .i64 x3, .int .i64 x4, .int .i64 x5, .slice a1 n1 c1, .slice a2 n2 c2, .slice a3 n3 c3] 34) := ⟨_, rfl⟩
  rw [← hW]
  have BW : Hid (Below w.heap.size w W) := by unfold Hid; rw [hW]; go_grown
  have A0 : Hid (W.heap[w.heap.size]? = some (.cells #[.int .i64 x0, .int .i64 x1, .int .i64 x2, .int .i64 x3, .int .i64 x4, .int .i64 x5, .slice a1 n1 c1, .slice a2 n2 c2, .slice a3 n3 c3] 34)) := by unfold Hid; rw [hW]; exact blk_new w _
  clear hW
  refine (heldIntP a1 n1 c1 g1 1 W H1.out (M1.out.below BW.out) l1 (by omega) (by omega)).mono ?_
  rintro e w1 ⟨rfl, hw⟩
  rw [hw]
  clear hw
  have k1 := blk_cell A0.out 7
  have k2 := blk_cell A0.out 8
  simp only [List.getElem?_toArray, List.getElem?_cons_zero, List.getElem?_cons_succ] at k1 k2
  have t1 : decide ((1 : Int) + (n1 : Int) < 0) = false := by simp; omega
  have t2 : decide ((1 : Int) + (n1 : Int) + (n2 : Int) < 0) = false := by simp; omega
  have t3 : decide ((1 : Int) + (n1 : Int) + (n2 : Int) + (n3 : Int) < 0) = false := by simp; omega
  go_wp2_with fail
  refine (heldIntP a2 n2 c2 g2 (1 + n1) W H2.out (M2.out.below BW.out) l2 (by omega) (by omega)).mono ?_
  rintro e w1 ⟨rfl, hw⟩
  rw [hw]
  clear hw
  go_wp2_with fail
  refine (heldIntP a3 n3 c3 g3 (1 + n1 + n2) W H3.out (M3.out.below BW.out) l3 (by omega) (by omega)).mono ?_
  rintro e w1 ⟨rfl, hw⟩
  rw [hw]
  clear hw
  go_wp2
  go_ret
  exact ⟨rfl, BW.out⟩
end Go.Proofs.YtgooegcmgejfpaaGreatDoor.MarkS
