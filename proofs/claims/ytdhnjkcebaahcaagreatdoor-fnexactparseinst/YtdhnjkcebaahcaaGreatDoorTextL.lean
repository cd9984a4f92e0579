import Derived.Test.YtdhnjkcebaahcaaGreatDoorPBase
import Derived.Deep.DrawnRows
namespace Go.Proofs.YtdhnjkcebaahcaaGreatDoor.Parse
open Go Go.RowKit Go.Proofs.YtdhnjkcebaahcaaGreatDoor.Mem
set_option linter.unusedVariables false
set_option linter.unusedSimpArgs false
attribute [local go_sem ↓] Go.wp_at_zero Go.wp_at_succ

set_option maxHeartbeats 1600000 in
set_option maxRecDepth 100000 in
/-- A copy of a text, in memory of its own. -/
theorem toByteS (a : Option Addr) (t : List UInt8) (n c : Nat) (w : World) (hn : n = t.length) (hr : Rd w a t) (hl : n ≤ 1048576) :
    Calls Tryz.prog 5 #[.slice a n c] w fun e w' => e = .returned (.slice (some ⟨w.heap.size, 0, none⟩) n n) ∧ Below w.heap.size w w' ∧ w'.there w.heap.size 0 n ∧ Rd w' (some ⟨w.heap.size, 0, none⟩) t ∧ w.heap.size < w'.heap.size := by
  have HN := Hid.mk hn
  have HR := Hid.mk hr
  clear hn hr
  have hmk := run_make_n (P := Tryz.prog) 22 5 _ 1 1 Tryz.underlying22 infoB n hl (by omega)
  go_enter Tryz.func5, Tryz.ntmps5
  go_wp2
  clear hmk
  go_loopw [4] (fun i wr => ∃ k : Nat, k ≤ n ∧ i = .int .i64 k ∧ Hid (Below w.heap.size w wr) ∧ Hid (wr.there w.heap.size 0 n) ∧ Hid (∀ j (h : j < t.length), j < k → wr.cell? ⟨w.heap.size, j, none⟩ = some (.int .u8 (t[j].toNat : Int))) ∧ Hid (w.heap.size < wr.heap.size)) (fun i _ => n - (intOf i).toNat)
  case atStart => exact ⟨0, Nat.zero_le _, rfl, (Below.refl _ _).alloc (Nat.le_refl _) _, there_make w #[.int .u8 0] 5 n, fun j _ hj => absurd hj (Nat.not_lt_zero _), by simp [Hid]⟩
  case round =>
    obtain ⟨k, hk, rfl, hb, ht, hf, hsz⟩ := hrel
    by_cases hlt : k < n
    · have hkl : k < t.length := by rw [← HN.out]; exact hlt
      obtain ⟨g, o, rfl, y1⟩ := (HR.out.below hb.out) k hkl
      obtain ⟨q, hq⟩ : ∃ q, q = t[k].toNat := ⟨_, rfl⟩
      rw [← hq] at y1
      have HQ := Hid.mk hq
      obtain ⟨c1, c2⟩ := ht.out k hlt
      obtain ⟨u, c1'⟩ := Option.isSome_iff_exists.1 c1
      rw [Nat.zero_add] at c1' c2
      clear hq c1
      go_wp2
      refine ⟨⟨k + 1, by omega, by go_num, hb.out.setCell (p := ⟨w.heap.size, k, none⟩) (Nat.le_refl _) _, World.there_setCells (w := wr) ht.out w.heap.size k [.int .u8 (q : Int)], fun j hjl hj => ?_, ?_⟩, by simp [intOf]; omega⟩
      · by_cases e : j = k
        · subst e
          rw [← HQ.out]
          exact World.cell?_setCell_same _ _ _ c1'
        · rw [World.cell?_setCell_other _ _ _ _ (by intro h; injection h; omega)]
          exact hf.out j hjl (by omega)
      · show w.heap.size < (wr.setCell ⟨w.heap.size, k, none⟩ (.int .u8 (q : Int))).heap.size
        rw [size_set]; exact hsz.out
    · obtain rfl : k = n := by omega
      go_wp2
      go_ret
      exact ⟨rfl, hb.out, ht.out, fun j hj => ⟨w.heap.size, 0, rfl, by rw [Nat.zero_add]; exact hf.out j hj (by rw [HN.out]; exact hj)⟩, hsz.out⟩
end Go.Proofs.YtdhnjkcebaahcaaGreatDoor.Parse
