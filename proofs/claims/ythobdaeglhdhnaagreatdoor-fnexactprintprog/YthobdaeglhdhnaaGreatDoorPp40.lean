import Derived.Test.YthobdaeglhdhnaaGreatDoorPp10
import Derived.Test.YthobdaeglhdhnaaGreatDoorPp12
namespace Go.Proofs.YthobdaeglhdhnaaGreatDoor.MarksB
open Go Go.RowKit Go.Proofs.YthobdaeglhdhnaaGreatDoor.Mem
open Go.Proofs.YthobdaeglhdhnaaGreatDoor.Print (Own)
set_option linter.unusedVariables false
set_option linter.unusedSimpArgs false
attribute [local go_sem ↓] Go.wp_at_zero Go.wp_at_succ

theorem grown_refl (w : World) (r : Option Nat) : w.grownBy w r := ⟨rfl, rfl, rfl, Nat.le_refl _, fun _ _ _ => rfl⟩
theorem grown_set (w : World) (b o : Nat) (u : Value) : w.grownBy (w.setCell ⟨b, o, none⟩ u) (some b) :=
  ⟨rfl, rfl, rfl, by simp [World.setCell], fun k _ hne => Below.heap_setCell _ _ _ _ (fun e => hne (by rw [e]))⟩
theorem there_set1 {w : World} {b o n : Nat} (h : w.there b o n) (b' o' : Nat) (v : Value) : (w.setCell ⟨b', o', none⟩ v).there b o n := World.there_setCells (w := w) h b' o' [v]
theorem there_grown {w w' : World} {b o n : Nat} {r : Option Nat} (h : w.there b o n) (hg : w.grownBy w' r) (hlt : b < w.heap.size) (hne : some b ≠ r) : w'.there b o n := fun j hj => by
  rw [World.cell?_of_block (a := ⟨b, o + j, none⟩) (hg.block b hlt hne), World.frozen?_of_block (a := ⟨b, o + j, none⟩) (hg.block b hlt hne)]; exact h j hj

theorem kept_grown {w W W' : World} {c r : Nat} (h : ∀ g, c < g → g < w.heap.size → W.heap[g]? = w.heap[g]?) (hg : W.grownBy W' (some r)) (hr : r ≤ c) : ∀ g, c < g → g < w.heap.size → W'.heap[g]? = w.heap[g]? := fun g h1 h2 => by
  rw [← h g h1 h2]
  by_cases hs : g < W.heap.size
  · exact hg.block g hs (fun e => by injection e; omega)
  · exfalso
    have := h g h1 h2
    rw [Array.getElem?_eq_none (by omega), Array.getElem?_eq_getElem h2] at this
    cases this

/-- Bytes that lie in a block between lo and hi, and may be written. -/
def At (lo hi : Nat) (w : World) (a : Option Addr) (bs : List UInt8) : Prop := ∀ j (h : j < bs.length), ∃ g, a = some ⟨g, 0, none⟩ ∧ lo ≤ g ∧ g < hi ∧ w.cell? ⟨g, j, none⟩ = some (.int .u8 (bs[j].toNat : Int)) ∧ w.frozen? ⟨g, j, none⟩ = false
theorem Own.lies {B : Nat} {w : World} {v : Value} {bs : List UInt8} (h : Own B w v bs) : ∃ a c, v = .slice a bs.length c ∧ At B w.heap.size w a bs := by
  rcases h.2 with ⟨rfl, h0⟩ | ⟨g, cap, cur, rfl, hg, hblk, -, -, -, ht⟩
  · exact ⟨none, 0, by rw [h0], fun j hj => by omega⟩
  · refine ⟨_, _, rfl, fun j hj => ⟨g, rfl, hg, blk_lt hblk, ?_, blk_unfrozen hblk j⟩⟩
    rw [blk_cell hblk j]
    have hu : (Lib.byteCells bs)[j]? = some (.int .u8 (bs[j].toNat : Int)) := by simp [Lib.byteCells, hj]
    rw [← ht, List.getElem?_take] at hu
    split at hu
    · simpa using hu
    · cases hu
theorem At.below {lo hi : Nat} {w w' : World} {a : Option Addr} {bs : List UInt8} (h : At lo hi w a bs) (hb : Below hi w w') : At lo hi w' a bs := fun j hj => by
  obtain ⟨g, e, h1, h2, h3, h4⟩ := h j hj
  exact ⟨g, e, h1, h2, by rw [hb.cell (p := ⟨g, j, none⟩) h2]; exact h3, by rw [hb.frozen (p := ⟨g, j, none⟩) h2]; exact h4⟩
theorem At.grown {lo hi r : Nat} {w w' : World} {a : Option Addr} {bs : List UInt8} (h : At lo hi w a bs) (hg : w.grownBy w' (some r)) (hhi : hi ≤ w.heap.size) (hr : r < lo ∨ hi ≤ r) : At lo hi w' a bs := fun j hj => by
  obtain ⟨g, e, h1, h2, h3, h4⟩ := h j hj
  have hb := hg.block g (by omega) (by intro e; injection e; omega)
  exact ⟨g, e, h1, h2, by rw [World.cell?_of_block (a := ⟨g, j, none⟩) hb]; exact h3, by rw [World.frozen?_of_block (a := ⟨g, j, none⟩) hb]; exact h4⟩

theorem At.kept {lo hi c : Nat} {w w' : World} {a : Option Addr} {bs : List UInt8} (h : At lo hi w a bs) (hk : ∀ g, c < g → g < w.heap.size → w'.heap[g]? = w.heap[g]?) (hc : c < lo) (hhi : hi ≤ w.heap.size) : At lo hi w' a bs := fun j hj => by
  obtain ⟨g, e, h1, h2, h3, h4⟩ := h j hj
  have hb := hk g (by omega) (by omega)
  exact ⟨g, e, h1, h2, by rw [World.cell?_of_block (a := ⟨g, j, none⟩) hb]; exact h3, by rw [World.frozen?_of_block (a := ⟨g, j, none⟩) hb]; exact h4⟩

set_option maxHeartbeats 3200000 in
set_option maxRecDepth 100000 in
theorem eqByteS (l1 l2 h1 h2 : Nat) (a b : Option Addr) (bs : List UInt8) (n c d : Nat) (w : World) (hn : n = bs.length) (ha : At l1 h1 w a bs) (hb : At l2 h2 w b bs) (hl : n ≤ 100000000) :
    Calls Tryz.prog 8 #[.slice a n c, .slice b n d] w fun e w' => e = .returned (.bool true) ∧ Below w.heap.size w w' := by
  have HN := Hid.mk hn
  have HA := Hid.mk ha
  have HB := Hid.mk hb
  clear hn ha hb
  go_enter Tryz.func8, Tryz.ntmps8
  go_wp2
  go_loopw [5] (fun i wr => ∃ j : Nat, j ≤ n ∧ i = .int .i64 j ∧ ∃ m, wr = w.drewN m) (fun i _ => n - (intOf i).toNat)
  case atStart => exact ⟨0, Nat.zero_le _, rfl, 0, rfl⟩
  case round =>
    obtain ⟨j, hj, rfl, m, rfl⟩ := hrel
    by_cases hlt : j < n
    · have hjl : j < bs.length := by rw [← HN.out]; exact hlt
      obtain ⟨g, rfl, -, -, e1, -⟩ := HA.out j hjl
      obtain ⟨g', rfl, -, -, e2, -⟩ := HB.out j hjl
      go_wp2_with fail
      go_quiet (fail)
      go_wp2
      exact ⟨⟨j + 1, by omega, by go_num, _, rfl⟩, by simp [intOf]; omega⟩
    · go_wp2
      go_ret
      exact ⟨rfl, below_drewN' (Below.refl _ _) m⟩


/-- What a byte holds behind a mark. -/
def Held (lo hi : Nat) (w : World) (a : Option Addr) (n : Nat) (k : Int) : Prop := ∀ j, j < n → ∃ g, a = some ⟨g, 0, none⟩ ∧ lo ≤ g ∧ g < hi ∧ w.cell? ⟨g, j, none⟩ = some (.int .u8 ((k + j) % 256))

set_option maxHeartbeats 3200000 in
set_option maxRecDepth 100000 in
theorem heldByteS (lo hi : Nat) (a : Option Addr) (n c : Nat) (k : Int) (w : World) (ha : Held lo hi w a n k) (hl : n ≤ 100000000) (h0 : 0 ≤ k) (h1 : k ≤ 100000000) :
    Calls Tryz.prog 12 #[.slice a n c, .int .i64 k] w fun e w' => e = .returned (.int .i64 (k + n)) ∧ Below w.heap.size w w' := by
  have HA := Hid.mk ha
  clear ha
  go_enter Tryz.func12, Tryz.ntmps12
  go_wp2
  go_loopw [1, 5] (fun kk i wr => ∃ j : Nat, j ≤ n ∧ i = .int .i64 j ∧ kk = .int .i64 (k + j) ∧ ∃ m, wr = w.drewN m) (fun _ i _ => n - (intOf i).toNat)
  case atStart => exact ⟨0, Nat.zero_le _, rfl, by simp, 0, rfl⟩
  case round =>
    obtain ⟨j, hj, rfl, rfl, m, rfl⟩ := hrel
    by_cases hlt : j < n
    · obtain ⟨g, rfl, -, -, e1⟩ := HA.out j hlt
      go_wp2
      exact ⟨⟨j + 1, by omega, by go_num, by congr 1; omega, _, rfl⟩, by simp [intOf]; omega⟩
    · have hkn : j = n := by omega
      subst hkn
      go_wp2
      go_ret
      exact ⟨rfl, below_drewN' (Below.refl _ _) m⟩

set_option maxHeartbeats 3200000 in
set_option maxRecDepth 100000 in
theorem markByteS (lo hi : Nat) (a : Option Addr) (bs : List UInt8) (n c : Nat) (k : Int) (w : World) (hn : n = bs.length) (ha : At lo hi w a bs) (hl : n ≤ 100000000) (h0 : 0 ≤ k) (h1 : k ≤ 100000000) :
    Calls Tryz.prog 11 #[.slice a n c, .int .i64 k] w fun e w' => e = .returned (.int .i64 (k + n)) ∧ Below lo w w' ∧ w'.heap.size = w.heap.size ∧ Held lo hi w' a n k := by
  by_cases hz : n = 0
  · subst hz
    go_enter Tryz.func11, Tryz.ntmps11
    go_wp2
    go_loopw [1, 5] (fun kk i wr => i = .int .i64 0 ∧ kk = .int .i64 k ∧ wr = w) (fun _ i _ => 0)
    case atStart => exact ⟨rfl, rfl, rfl⟩
    case round =>
      obtain ⟨rfl, rfl, rfl⟩ := hrel
      go_wp2
      go_ret
      exact ⟨by simp, Below.refl _ _, rfl, fun j hj => by omega⟩
  · obtain ⟨g, rfl, g1, g2, c0, -⟩ := ha 0 (by omega)
    have g3 : g < w.heap.size := lt_of_cell c0
    clear c0
    have ht : w.there g 0 n := fun j hj => by
      obtain ⟨g', e, -, -, c1, c2⟩ := ha j (by omega)
      injection e with e
      injection e with e
      subst e
      rw [Nat.zero_add]
      exact ⟨by rw [c1]; rfl, c2⟩
    have HT := Hid.mk ht
    clear ht ha hn
    go_enter Tryz.func11, Tryz.ntmps11
    go_wp2
    go_loopw [1, 5] (fun kk i wr => ∃ j : Nat, j ≤ n ∧ i = .int .i64 j ∧ kk = .int .i64 (k + j) ∧ Hid (wr.there g 0 n) ∧ Hid (w.grownBy wr (some g)) ∧ Hid (wr.heap.size = w.heap.size) ∧ Hid (∀ x, x < j → wr.cell? ⟨g, x, none⟩ = some (.int .u8 ((k + x) % 256)))) (fun _ i _ => n - (intOf i).toNat)
    case atStart => exact ⟨0, Nat.zero_le _, rfl, by simp, HT, grown_refl _ _, rfl, fun x hx => by omega⟩
    case round =>
      obtain ⟨j, hj, rfl, rfl, ht, hg, hs, hc⟩ := hrel
      by_cases hlt : j < n
      · obtain ⟨c1, c2⟩ := ht.out j hlt
        obtain ⟨u, c1⟩ := Option.isSome_iff_exists.1 c1
        rw [Nat.zero_add] at c1 c2
        go_wp2
        refine ⟨⟨j + 1, by omega, by go_num, by congr 1; omega, there_set1 ht.out _ _ _, hg.out.trans (grown_set _ _ _ _), by rw [Hid, size_set]; exact hs.out, fun x hx => ?_⟩, by simp [intOf]; omega⟩
        by_cases hxj : x = j
        · subst hxj
          exact World.cell?_setCell_same _ _ _ c1
        · rw [World.cell?_setCell_other _ _ _ _ (by intro e; injection e; omega)]
          exact hc.out x (by omega)
      · have hkn : j = n := by omega
        subst hkn
        go_wp2
        go_ret
        exact ⟨rfl, (Below.refl _ _).grown hg.out (by omega) (fun k hk => by injection hk; omega), hs.out, fun x hx => ⟨g, rfl, g1, g2, hc.out x hx⟩⟩

end Go.Proofs.YthobdaeglhdhnaaGreatDoor.MarksB
namespace Go.Proofs.YthobdaeglhdhnaaGreatDoor.MarksB
open Go Go.RowKit Go.Proofs.YthobdaeglhdhnaaGreatDoor.Mem
set_option linter.unusedVariables false
set_option linter.unusedSimpArgs false
attribute [local go_sem ↓] Go.wp_at_zero Go.wp_at_succ

set_option maxHeartbeats 3200000 in
set_option maxRecDepth 100000 in
theorem markText (k : Int) (w : World) (h0 : 0 ≤ k) (h1 : k ≤ 100000000) : Calls Tryz.prog 35 #[.int .i64 k] w fun e w' => ∃ s : ByteArray, e = .returned (.string s) ∧ Below w.heap.size w w' := by
  by_cases hz : k = 0
  · subst hz
    go_enter Tryz.func35, Tryz.ntmps35
    go_wp2
    go_ret
    exact ⟨_, rfl, by go_grown⟩
  go_enter Tryz.func35, Tryz.ntmps35
  go_wp2
  go_loopw [0, 3] (fun kk s wr => ∃ (q : Int) (t : ByteArray), kk = .int .i64 q ∧ s = .string t ∧ 0 ≤ q ∧ q + t.size ≤ 100000000 ∧ Hid (Below w.heap.size w wr)) (fun kk _ _ => (intOf kk).toNat)
  case atStart => exact ⟨k, _, rfl, rfl, h0, by show k + 0 ≤ 100000000; omega, by unfold Hid; go_grown⟩
  case round =>
    obtain ⟨q, t, rfl, rfl, q0, q1, hb⟩ := hrel
    by_cases hq : 0 < q
    · obtain ⟨d, hd⟩ : ∃ d : UInt8, ((d.toNat : Nat) : Int) = 48 + q % 10 := ⟨UInt8.ofNat (48 + (q % 10).toNat), by
        have : (UInt8.ofNat (48 + (q % 10).toNat)).toNat = 48 + (q % 10).toNat := by
          rw [UInt8.toNat_ofNat']
          exact Nat.mod_eq_of_lt (by omega)
        rw [this]
        omega⟩
      have cb : (convert 26 9 (.slice (some ⟨wr.heap.size, 0, none⟩) 1 1)).run Tryz.prog (wr.alloc (.cells #[.int .u8 (48 + q % 10)] 5)) = .ok (.string ⟨#[d]⟩) (wr.alloc (.cells #[.int .u8 (48 + q % 10)] 5)) :=
        run_convert_bytes_back (P := Tryz.prog) (wr.alloc (.cells #[.int .u8 (48 + q % 10)] 5)) 26 9 5 ⟨wr.heap.size, 0, none⟩ 1 [d] Tryz.underlying26 Tryz.underlying5 Tryz.underlying9 (fun j hj => by
          have h0 : j = 0 := by simpa using hj
          subst h0
          rw [Addr.add_mid, blk_cell (blk_new wr _) (0 + 0)]
          simp only [List.getElem_cons_zero, hd]
          rfl)
      clear hd
      have sz : ((⟨#[d]⟩ : ByteArray) ++ t).size = 1 + t.size := by rw [ByteArray.size_append]; rfl
      go_wp2
      exact ⟨⟨q / 10, _, rfl, rfl, by omega, by rw [sz]; omega, by unfold Hid; exact below_alloc' hb.out _⟩, by simp [intOf]; omega⟩
    · go_wp2
      go_ret
      exact ⟨⟨_, rfl⟩, hb.out⟩
end Go.Proofs.YthobdaeglhdhnaaGreatDoor.MarksB
