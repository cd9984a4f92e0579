import Derived.Test.YtdhnjkcebaahcaaDoorConv
import Derived.Test.YtdhnjkcebaahcaaDoorEq3
namespace Go.Proofs.YtdhnjkcebaahcaaDoor.Marks
open Go Go.RowKit Go.Proofs.YtdhnjkcebaahcaaDoor.Mem Go.Proofs.YtdhnjkcebaahcaaDoor.Print
set_option linter.unusedVariables false
set_option linter.unusedSimpArgs false
attribute [local go_sem ↓] Go.wp_at_zero Go.wp_at_succ

theorem grown_refl (w : World) (r : Option Nat) : w.grownBy w r := ⟨rfl, rfl, rfl, Nat.le_refl _, fun _ _ _ => rfl⟩
theorem grown_set (w : World) (b o : Nat) (u : Value) : w.grownBy (w.setCell ⟨b, o, none⟩ u) (some b) :=
  ⟨rfl, rfl, rfl, by simp [World.setCell], fun k _ hne => Below.heap_setCell _ _ _ _ (fun e => hne (by rw [e]))⟩
theorem there_set1 {w : World} {b o n : Nat} (h : w.there b o n) (b' o' : Nat) (v : Value) : (w.setCell ⟨b', o', none⟩ v).there b o n := World.there_setCells (w := w) h b' o' [v]
theorem there_grown {w w' : World} {b o n : Nat} {r : Option Nat} (h : w.there b o n) (hg : w.grownBy w' r) (hlt : b < w.heap.size) (hne : some b ≠ r) : w'.there b o n := fun j hj => by
  rw [World.cell?_of_block (a := ⟨b, o + j, none⟩) (hg.block b hlt hne), World.frozen?_of_block (a := ⟨b, o + j, none⟩) (hg.block b hlt hne)]; exact h j hj

theorem kept_grown {w W W' : World} {c r : Nat} (h : ∀ g, c < g → g < w.heap.size → W.heap[g]? = w.heap[g]?) (hg : W.grownBy W' (some r)) (hr : r ≤ c) : ∀ g, c < g → g < w.heap.size → W'.heap[g]? = w.heap[g]? := fun g h1 h2 => by
  rw [← h g h1 h2]
  by_cases hs : g < W.heap.size
  · exact hg.block g hs (fun e => by injection e; omega)
  · exfalso
    have := h g h1 h2
    rw [Array.getElem?_eq_none (by omega), Array.getElem?_eq_getElem h2] at this
    cases this

/-- Bytes that lie in a block between lo and hi, and may be written. -/
def At (lo hi : Nat) (w : World) (a : Option Addr) (bs : List UInt8) : Prop := ∀ j (h : j < bs.length), ∃ g, a = some ⟨g, 0, none⟩ ∧ lo ≤ g ∧ g < hi ∧ w.cell? ⟨g, j, none⟩ = some (.int .u8 (bs[j].toNat : Int)) ∧ w.frozen? ⟨g, j, none⟩ = false
theorem Own.lies {B : Nat} {w : World} {v : Value} {bs : List UInt8} (h : Own B w v bs) : ∃ a c, v = .slice a bs.length c ∧ At B w.heap.size w a bs := by
  rcases h.2 with ⟨rfl, h0⟩ | ⟨g, cap, cur, rfl, hg, hblk, -, -, -, ht⟩
  · exact ⟨none, 0, by rw [h0], fun j hj => by omega⟩
  · refine ⟨_, _, rfl, fun j hj => ⟨g, rfl, hg, blk_lt hblk, ?_, blk_unfrozen hblk j⟩⟩
    rw [blk_cell hblk j]
    have hu : (Lib.byteCells bs)[j]? = some (.int .u8 (bs[j].toNat : Int)) := by simp [Lib.byteCells, hj]
    rw [← ht, List.getElem?_take] at hu
    split at hu
    · simpa using hu
    · cases hu
theorem At.below {lo hi : Nat} {w w' : World} {a : Option Addr} {bs : List UInt8} (h : At lo hi w a bs) (hb : Below hi w w') : At lo hi w' a bs := fun j hj => by
  obtain ⟨g, e, h1, h2, h3, h4⟩ := h j hj
  exact ⟨g, e, h1, h2, by rw [hb.cell (p := ⟨g, j, none⟩) h2]; exact h3, by rw [hb.frozen (p := ⟨g, j, none⟩) h2]; exact h4⟩
theorem At.grown {lo hi r : Nat} {w w' : World} {a : Option Addr} {bs : List UInt8} (h : At lo hi w a bs) (hg : w.grownBy w' (some r)) (hhi : hi ≤ w.heap.size) (hr : r < lo ∨ hi ≤ r) : At lo hi w' a bs := fun j hj => by
  obtain ⟨g, e, h1, h2, h3, h4⟩ := h j hj
  have hb := hg.block g (by omega) (by intro e; injection e; omega)
  exact ⟨g, e, h1, h2, by rw [World.cell?_of_block (a := ⟨g, j, none⟩) hb]; exact h3, by rw [World.frozen?_of_block (a := ⟨g, j, none⟩) hb]; exact h4⟩

theorem At.kept {lo hi c : Nat} {w w' : World} {a : Option Addr} {bs : List UInt8} (h : At lo hi w a bs) (hk : ∀ g, c < g → g < w.heap.size → w'.heap[g]? = w.heap[g]?) (hc : c < lo) (hhi : hi ≤ w.heap.size) : At lo hi w' a bs := fun j hj => by
  obtain ⟨g, e, h1, h2, h3, h4⟩ := h j hj
  have hb := hk g (by omega) (by omega)
  exact ⟨g, e, h1, h2, by rw [World.cell?_of_block (a := ⟨g, j, none⟩) hb]; exact h3, by rw [World.frozen?_of_block (a := ⟨g, j, none⟩) hb]; exact h4⟩

set_option maxHeartbeats 3200000 in
set_option maxRecDepth 100000 in
theorem eqByteS (l1 l2 h1 h2 : Nat) (a b : Option Addr) (bs : List UInt8) (n c d : Nat) (w : World) (hn : n = bs.length) (ha : At l1 h1 w a bs) (hb : At l2 h2 w b bs) (hl : n ≤ 100000000) :
    Calls Tryd.prog 11 #[.slice a n c, .slice b n d] w fun e w' => e = .returned (.bool true) ∧ Below w.heap.size w w' := by
  have HN := Hid.mk hn
  have HA := Hid.mk ha
  have HB := Hid.mk hb
  clear hn ha hb
  go_enter Tryd.func11, Tryd.ntmps11
  go_wp2
  go_loopw [5] (fun i wr => ∃ j : Nat, j ≤ n ∧ i = .int .i64 j ∧ ∃ m, wr = w.drewN m) (fun i _ => n - (intOf i).toNat)
  case atStart => exact ⟨0, Nat.zero_le _, rfl, 0, rfl⟩
  case round =>
    obtain ⟨j, hj, rfl, m, rfl⟩ := hrel
    by_cases hlt : j < n
    · have hjl : j < bs.length := by rw [← HN.out]; exact hlt
      obtain ⟨g, rfl, -, -, e1, -⟩ := HA.out j hjl
      obtain ⟨g', rfl, -, -, e2, -⟩ := HB.out j hjl
      go_wp2_with fail
      go_quiet (fail)
      go_wp2
      exact ⟨⟨j + 1, by omega, by go_num, _, rfl⟩, by simp [intOf]; omega⟩
    · go_wp2
      go_ret
      exact ⟨rfl, below_drewN' (Below.refl _ _) m⟩

set_option maxHeartbeats 3200000 in
set_option maxRecDepth 100000 in
theorem markVehicleS (b n cap : Nat) (k : Int) (w : World) (ht0 : w.there b 0 (n * 7)) (hn : n ≤ 1048576) (h0 : 0 ≤ k) (h1 : k ≤ 100000000) :
    Calls Tryd.prog 43 #[.slice (some ⟨b, 0, none⟩) n cap, .int .i64 k] w fun e w' => e = .returned (.int .i64 (k + 7 * n)) ∧ w.grownBy w' (some b) := by
  have HT := Hid.mk ht0
  clear ht0
  go_enter Tryd.func43, Tryd.ntmps43
  go_wp2
  go_loopw [1, 5] (fun kk i wr => ∃ j : Nat, j ≤ n ∧ i = .int .i64 j ∧ kk = .int .i64 (k + 7 * j) ∧ Hid (wr.there b 0 (n * 7)) ∧ Hid (w.grownBy wr (some b))) (fun _ i _ => n - (intOf i).toNat)
  case atStart => exact ⟨0, Nat.zero_le _, rfl, by simp, HT, grown_refl _ _⟩
  case round =>
    obtain ⟨j, hj, rfl, rfl, ht, hg⟩ := hrel
    by_cases hlt : j < n
    · obtain ⟨v0, v1, v2, v3, v4, v5, v6, d0, d1, d2, d3, d4, d5, d6, f0, f1, f2, f3, f4, f5, f6⟩ := there7 (there_part (o' := j * 7) (n' := 7) ht.out (by omega) (by omega))
      go_wp2
      refine ⟨⟨j + 1, by omega, by go_num, by congr 1; omega, ?_, ?_⟩, by simp [intOf]; omega⟩
      · exact (there_set1 (there_set1 (there_set1 (there_set1 (there_set1 (there_set1 (there_set1 ht.out _ _ _) _ _ _) _ _ _) _ _ _) _ _ _) _ _ _) _ _ _)
      · exact (((((((hg.out.trans (grown_set _ _ _ _)).trans (grown_set _ _ _ _)).trans (grown_set _ _ _ _)).trans (grown_set _ _ _ _)).trans (grown_set _ _ _ _)).trans (grown_set _ _ _ _)).trans (grown_set _ _ _ _))
    · have hkn : j = n := by omega
      subst hkn
      go_wp2
      go_ret
      exact ⟨rfl, hg.out⟩

set_option maxHeartbeats 3200000 in
set_option maxRecDepth 100000 in
theorem markRequestS (b n cap : Nat) (k : Int) (w : World) (ht0 : w.there b 0 (n * 12)) (hn : n ≤ 1048576) (h0 : 0 ≤ k) (h1 : k ≤ 100000000) :
    Calls Tryd.prog 44 #[.slice (some ⟨b, 0, none⟩) n cap, .int .i64 k] w fun e w' => e = .returned (.int .i64 (k + 12 * n)) ∧ w.grownBy w' (some b) := by
  have HT := Hid.mk ht0
  clear ht0
  go_enter Tryd.func44, Tryd.ntmps44
  go_wp2
  go_loopw [1, 5] (fun kk i wr => ∃ j : Nat, j ≤ n ∧ i = .int .i64 j ∧ kk = .int .i64 (k + 12 * j) ∧ Hid (wr.there b 0 (n * 12)) ∧ Hid (w.grownBy wr (some b))) (fun _ i _ => n - (intOf i).toNat)
  case atStart => exact ⟨0, Nat.zero_le _, rfl, by simp, HT, grown_refl _ _⟩
  case round =>
    obtain ⟨j, hj, rfl, rfl, ht, hg⟩ := hrel
    by_cases hlt : j < n
    · obtain ⟨v0, v1, v2, v3, v4, v5, v6, v7, v8, v9, v10, v11, d0, d1, d2, d3, d4, d5, d6, d7, d8, d9, d10, d11, f0, f1, f2, f3, f4, f5, f6, f7, f8, f9, f10, f11⟩ := there12 (there_part (o' := j * 12) (n' := 12) ht.out (by omega) (by omega))
      go_wp2
      refine ⟨⟨j + 1, by omega, by go_num, by congr 1; omega, ?_, ?_⟩, by simp [intOf]; omega⟩
      · exact (there_set1 (there_set1 (there_set1 (there_set1 (there_set1 (there_set1 (there_set1 (there_set1 (there_set1 (there_set1 (there_set1 (there_set1 ht.out _ _ _) _ _ _) _ _ _) _ _ _) _ _ _) _ _ _) _ _ _) _ _ _) _ _ _) _ _ _) _ _ _) _ _ _)
      · exact ((((((((((((hg.out.trans (grown_set _ _ _ _)).trans (grown_set _ _ _ _)).trans (grown_set _ _ _ _)).trans (grown_set _ _ _ _)).trans (grown_set _ _ _ _)).trans (grown_set _ _ _ _)).trans (grown_set _ _ _ _)).trans (grown_set _ _ _ _)).trans (grown_set _ _ _ _)).trans (grown_set _ _ _ _)).trans (grown_set _ _ _ _)).trans (grown_set _ _ _ _))
    · have hkn : j = n := by omega
      subst hkn
      go_wp2
      go_ret
      exact ⟨rfl, hg.out⟩

set_option maxHeartbeats 3200000 in
set_option maxRecDepth 100000 in
theorem markRoadS (b n cap : Nat) (k : Int) (w : World) (ht0 : w.there b 0 (n * 3)) (hn : n ≤ 1048576) (h0 : 0 ≤ k) (h1 : k ≤ 100000000) :
    Calls Tryd.prog 45 #[.slice (some ⟨b, 0, none⟩) n cap, .int .i64 k] w fun e w' => e = .returned (.int .i64 (k + 3 * n)) ∧ w.grownBy w' (some b) := by
  have HT := Hid.mk ht0
  clear ht0
  go_enter Tryd.func45, Tryd.ntmps45
  go_wp2
  go_loopw [1, 5] (fun kk i wr => ∃ j : Nat, j ≤ n ∧ i = .int .i64 j ∧ kk = .int .i64 (k + 3 * j) ∧ Hid (wr.there b 0 (n * 3)) ∧ Hid (w.grownBy wr (some b))) (fun _ i _ => n - (intOf i).toNat)
  case atStart => exact ⟨0, Nat.zero_le _, rfl, by simp, HT, grown_refl _ _⟩
  case round =>
    obtain ⟨j, hj, rfl, rfl, ht, hg⟩ := hrel
    by_cases hlt : j < n
    · obtain ⟨v0, v1, v2, d0, d1, d2, f0, f1, f2⟩ := there3 (there_part (o' := j * 3) (n' := 3) ht.out (by omega) (by omega))
      go_wp2
      refine ⟨⟨j + 1, by omega, by go_num, by congr 1; omega, ?_, ?_⟩, by simp [intOf]; omega⟩
      · exact (there_set1 (there_set1 (there_set1 ht.out _ _ _) _ _ _) _ _ _)
      · exact (((hg.out.trans (grown_set _ _ _ _)).trans (grown_set _ _ _ _)).trans (grown_set _ _ _ _))
    · have hkn : j = n := by omega
      subst hkn
      go_wp2
      go_ret
      exact ⟨rfl, hg.out⟩

/-- What a byte holds behind a mark. -/
def Held (lo hi : Nat) (w : World) (a : Option Addr) (n : Nat) (k : Int) : Prop := ∀ j, j < n → ∃ g, a = some ⟨g, 0, none⟩ ∧ lo ≤ g ∧ g < hi ∧ w.cell? ⟨g, j, none⟩ = some (.int .u8 ((k + j) % 256))

set_option maxHeartbeats 3200000 in
set_option maxRecDepth 100000 in
theorem heldByteS (lo hi : Nat) (a : Option Addr) (n c : Nat) (k : Int) (w : World) (ha : Held lo hi w a n k) (hl : n ≤ 100000000) (h0 : 0 ≤ k) (h1 : k ≤ 100000000) :
    Calls Tryd.prog 15 #[.slice a n c, .int .i64 k] w fun e w' => e = .returned (.int .i64 (k + n)) ∧ Below w.heap.size w w' := by
  have HA := Hid.mk ha
  clear ha
  go_enter Tryd.func15, Tryd.ntmps15
  go_wp2
  go_loopw [1, 5] (fun kk i wr => ∃ j : Nat, j ≤ n ∧ i = .int .i64 j ∧ kk = .int .i64 (k + j) ∧ ∃ m, wr = w.drewN m) (fun _ i _ => n - (intOf i).toNat)
  case atStart => exact ⟨0, Nat.zero_le _, rfl, by simp, 0, rfl⟩
  case round =>
    obtain ⟨j, hj, rfl, rfl, m, rfl⟩ := hrel
    by_cases hlt : j < n
    · obtain ⟨g, rfl, -, -, e1⟩ := HA.out j hlt
      go_wp2
      exact ⟨⟨j + 1, by omega, by go_num, by congr 1; omega, _, rfl⟩, by simp [intOf]; omega⟩
    · have hkn : j = n := by omega
      subst hkn
      go_wp2
      go_ret
      exact ⟨rfl, below_drewN' (Below.refl _ _) m⟩

set_option maxHeartbeats 3200000 in
set_option maxRecDepth 100000 in
theorem markByteS (lo hi : Nat) (a : Option Addr) (bs : List UInt8) (n c : Nat) (k : Int) (w : World) (hn : n = bs.length) (ha : At lo hi w a bs) (hl : n ≤ 100000000) (h0 : 0 ≤ k) (h1 : k ≤ 100000000) :
    Calls Tryd.prog 14 #[.slice a n c, .int .i64 k] w fun e w' => e = .returned (.int .i64 (k + n)) ∧ Below lo w w' ∧ w'.heap.size = w.heap.size ∧ Held lo hi w' a n k := by
  by_cases hz : n = 0
  · subst hz
    go_enter Tryd.func14, Tryd.ntmps14
    go_wp2
    go_loopw [1, 5] (fun kk i wr => i = .int .i64 0 ∧ kk = .int .i64 k ∧ wr = w) (fun _ i _ => 0)
    case atStart => exact ⟨rfl, rfl, rfl⟩
    case round =>
      obtain ⟨rfl, rfl, rfl⟩ := hrel
      go_wp2
      go_ret
      exact ⟨by simp, Below.refl _ _, rfl, fun j hj => by omega⟩
  · obtain ⟨g, rfl, g1, g2, c0, -⟩ := ha 0 (by omega)
    have g3 : g < w.heap.size := lt_of_cell c0
    clear c0
    have ht : w.there g 0 n := fun j hj => by
      obtain ⟨g', e, -, -, c1, c2⟩ := ha j (by omega)
      injection e with e
      injection e with e
      subst e
      rw [Nat.zero_add]
      exact ⟨by rw [c1]; rfl, c2⟩
    have HT := Hid.mk ht
    clear ht ha hn
    go_enter Tryd.func14, Tryd.ntmps14
    go_wp2
    go_loopw [1, 5] (fun kk i wr => ∃ j : Nat, j ≤ n ∧ i = .int .i64 j ∧ kk = .int .i64 (k + j) ∧ Hid (wr.there g 0 n) ∧ Hid (w.grownBy wr (some g)) ∧ Hid (wr.heap.size = w.heap.size) ∧ Hid (∀ x, x < j → wr.cell? ⟨g, x, none⟩ = some (.int .u8 ((k + x) % 256)))) (fun _ i _ => n - (intOf i).toNat)
    case atStart => exact ⟨0, Nat.zero_le _, rfl, by simp, HT, grown_refl _ _, rfl, fun x hx => by omega⟩
    case round =>
      obtain ⟨j, hj, rfl, rfl, ht, hg, hs, hc⟩ := hrel
      by_cases hlt : j < n
      · obtain ⟨c1, c2⟩ := ht.out j hlt
        obtain ⟨u, c1⟩ := Option.isSome_iff_exists.1 c1
        rw [Nat.zero_add] at c1 c2
        go_wp2
        refine ⟨⟨j + 1, by omega, by go_num, by congr 1; omega, there_set1 ht.out _ _ _, hg.out.trans (grown_set _ _ _ _), by rw [Hid, size_set]; exact hs.out, fun x hx => ?_⟩, by simp [intOf]; omega⟩
        by_cases hxj : x = j
        · subst hxj
          exact World.cell?_setCell_same _ _ _ c1
        · rw [World.cell?_setCell_other _ _ _ _ (by intro e; injection e; omega)]
          exact hc.out x (by omega)
      · have hkn : j = n := by omega
        subst hkn
        go_wp2
        go_ret
        exact ⟨rfl, (Below.refl _ _).grown hg.out (by omega) (fun k hk => by injection hk; omega), hs.out, fun x hx => ⟨g, rfl, g1, g2, hc.out x hx⟩⟩

set_option maxHeartbeats 3200000 in
set_option maxRecDepth 100000 in
theorem markInst (b1 b2 b3 n1 n2 n3 c1 c2 c3 : Nat) (k : Int) (w : World) (t1 : w.there b1 0 (n1 * 7)) (t2 : w.there b2 0 (n2 * 12)) (t3 : w.there b3 0 (n3 * 3)) (l1 : b1 < b2) (l2 : b2 < b3) (l3 : b3 < w.heap.size) (h1 : n1 ≤ 1048576) (h2 : n2 ≤ 1048576) (h3 : n3 ≤ 1048576) (k0 : 0 ≤ k) (k1 : k ≤ 1000) :
    Calls Tryd.prog 13 #[.agg #[.slice (some ⟨b1, 0, none⟩) n1 c1, .slice (some ⟨b2, 0, none⟩) n2 c2, .slice (some ⟨b3, 0, none⟩) n3 c3], .int .i64 k] w fun e w' => ∃ r : Int, e = .returned (.int .i64 r) ∧ 0 ≤ r ∧ Below b1 w w' ∧ ∀ g, b3 < g → g < w.heap.size → w'.heap[g]? = w.heap[g]? := by
  have hb0 : Below b1 w (w.alloc (.cells #[.slice (some ⟨b1, 0, none⟩) n1 c1, .slice (some ⟨b2, 0, none⟩) n2 c2, .slice (some ⟨b3, 0, none⟩) n3 c3] 34)) := (Below.refl _ _).alloc (by omega) _
  have hk0 : ∀ g, b3 < g → g < w.heap.size → (w.alloc (.cells #[.slice (some ⟨b1, 0, none⟩) n1 c1, .slice (some ⟨b2, 0, none⟩) n2 c2, .slice (some ⟨b3, 0, none⟩) n3 c3] 34)).heap[g]? = w.heap[g]? := fun g _ hg => Below.heap_alloc _ _ _ hg
  have HB0 := Hid.mk hb0
  have HK0 := Hid.mk hk0
  have T1 := Hid.mk (there_below t1 (show b1 < w.heap.size by omega) (below_alloc' (Below.refl _ _) (.cells #[.slice (some ⟨b1, 0, none⟩) n1 c1, .slice (some ⟨b2, 0, none⟩) n2 c2, .slice (some ⟨b3, 0, none⟩) n3 c3] 34)))
  have T2 := Hid.mk (there_below t2 (show b2 < w.heap.size by omega) (below_alloc' (Below.refl _ _) (.cells #[.slice (some ⟨b1, 0, none⟩) n1 c1, .slice (some ⟨b2, 0, none⟩) n2 c2, .slice (some ⟨b3, 0, none⟩) n3 c3] 34)))
  have T3 := Hid.mk (there_below t3 l3 (below_alloc' (Below.refl _ _) (.cells #[.slice (some ⟨b1, 0, none⟩) n1 c1, .slice (some ⟨b2, 0, none⟩) n2 c2, .slice (some ⟨b3, 0, none⟩) n3 c3] 34)))
  clear t1 t2 t3 hb0 hk0
  have hne : ∀ {x y : Nat}, x ≠ y → some x ≠ some y := fun h e => h (Option.some.inj e)
  go_enter Tryd.func13, Tryd.ntmps13
  go_wp2_with fail
  refine (markVehicleS b1 n1 c1 k _ T1.out h1 k0 (by omega)).mono ?_
  rintro e w1 ⟨rfl, g1⟩
  have z1 : w.heap.size + 1 ≤ w1.heap.size := by have := g1.size; simpa using this
  have A1 := Hid.mk (blk_grown (blk_new w _) g1 (hne (by omega)))
  have U2 := Hid.mk (there_grown T2.out g1 (by simp; omega) (hne (by omega)))
  have U3 := Hid.mk (there_grown T3.out g1 (by simp; omega) (hne (by omega)))
  have HB1 := Hid.mk (HB0.out.grown g1 (by simp; omega) (fun r hr => by injection hr with hr; omega))
  have HK1 := Hid.mk (kept_grown HK0.out g1 (by omega))
  clear T1 T2 T3 HB0 HK0 g1
  have x1 := blk_cell A1.out 1
  simp only [List.getElem?_toArray, List.getElem?_cons_zero, List.getElem?_cons_succ] at x1
  go_wp2_with fail
  clear x1
  refine (markRequestS b2 n2 c2 _ _ U2.out h2 (by omega) (by omega)).mono ?_
  rintro e w2 ⟨rfl, g2⟩
  have z2 : w.heap.size + 1 ≤ w2.heap.size := Nat.le_trans z1 g2.size
  have A2 := Hid.mk (blk_grown A1.out g2 (hne (by omega)))
  have V3 := Hid.mk (there_grown U3.out g2 (by omega) (hne (by omega)))
  have HB2 := Hid.mk (HB1.out.grown g2 (by omega) (fun r hr => by injection hr with hr; omega))
  have HK2 := Hid.mk (kept_grown HK1.out g2 (by omega))
  clear U2 U3 HB1 HK1 g2 A1
  have x1 := blk_cell A2.out 2
  simp only [List.getElem?_toArray, List.getElem?_cons_zero, List.getElem?_cons_succ] at x1
  go_wp2_with fail
  clear x1
  refine (markRoadS b3 n3 c3 _ _ V3.out h3 (by omega) (by omega)).mono ?_
  rintro e w3 ⟨rfl, g3⟩
  have HB3 := Hid.mk (HB2.out.grown g3 (by omega) (fun r hr => by injection hr with hr; omega))
  have HK3 := Hid.mk (kept_grown HK2.out g3 (by omega))
  clear V3 HB2 HK2 g3 A2
  go_wp2
  go_ret
  exact ⟨_, rfl, by omega, HB3.out, HK3.out⟩
end Go.Proofs.YtdhnjkcebaahcaaDoor.Marks
