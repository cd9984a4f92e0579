import Derived.Test.YtdhnjkcebaahcaaDoorMemC
import Derived.Test.YtdhnjkcebaahcaaDoorKit
namespace Go.Proofs.YtdhnjkcebaahcaaDoor.Copy
open Go Go.RowKit Go.Proofs.YtdhnjkcebaahcaaDoor.Mem
set_option linter.unusedVariables false

set_option maxHeartbeats 400000 in
theorem toIns (p a b c : Int) (w : World) : Calls Tryd.prog 83 #[.agg #[.int .i64 p, .int .i64 a, .int .i64 b, .int .i64 c]] w fun r w' => r = .returned (.agg #[.int .i64 p, .int .i64 a, .int .i64 b, .int .i64 c]) ∧ Below w.heap.size w w' := by
  go_enter Tryd.func83, Tryd.ntmps83
  go_wp2
  go_returns
  exact ⟨rfl, by go_grown⟩

theorem infoIs : (Tryd.prog.info? 90).map (fun i => (i.zero, i.size, i.bytes)) = some (some (.agg #[.int .i64 0, .int .i64 0, .int .i64 0, .int .i64 0]), 4, 32) := by kernel_rfl

set_option maxHeartbeats 800000 in
set_option maxRecDepth 100000 in
theorem toInsS (a : Option Addr) (n cap : Nat) (V : Nat → Is) (w : World) (hs : SliceAt w a n 4 (fun i => (V i).cells)) (hn : n ≤ 1048576) :
    Calls Tryd.prog 49 #[.slice a n cap] w fun e w' => e = .returned (.slice (some ⟨w.heap.size, 0, none⟩) n n) ∧ Below w.heap.size w w' ∧ w'.there w.heap.size 0 (n * 4) ∧ (∀ i, i < n → w'.rangeAt w.heap.size (0 + i * 4) (V i).cells) ∧ w.heap.size < w'.heap.size := by
  have hmk := run_make_n (P := Tryd.prog) 46 90 _ 4 32 Tryd.underlying46 infoIs n hn (by omega)
  go_enter Tryd.func49, Tryd.ntmps49
  go_wp2
  clear hmk
  go_loopw [4] (fun i wr => ∃ k : Nat, k ≤ n ∧ i = .int .i64 k ∧ Hid (Below w.heap.size w wr) ∧ Hid (wr.there w.heap.size 0 (n * 4)) ∧ Hid (∀ i, i < k → wr.rangeAt w.heap.size (0 + i * 4) (V i).cells) ∧ Hid (w.heap.size < wr.heap.size)) (fun i _ => n - (intOf i).toNat)
  case atStart => exact ⟨0, Nat.zero_le _, rfl, (Below.refl _ _).alloc (Nat.le_refl _) _, there_make _ _ _ _, fun i hi => absurd hi (Nat.not_lt_zero _), by simp [Hid]⟩
  case round =>
    obtain ⟨k, hk, rfl, hb, ht, hf, hsz⟩ := hrel
    by_cases hlt : k < n
    · rcases hs with hs | ⟨b, off, rfl, hs⟩
      · omega
      obtain ⟨c0, c1, c2, c3⟩ := Is.at (rangeAt_below (hs k hlt) hb.out)
      clear hs
      go_wp2_with fail
      refine (toIns _ _ _ _ _).mono ?_
      rintro e w1 ⟨rfl, hb1⟩
      clear c0 c1 c2 c3
      have hlt0 : w.heap.size < wr.heap.size := hsz.out
      have hsz1 : Hid (w.heap.size < w1.heap.size) := Nat.lt_of_lt_of_le hsz.out hb1.size
      have ht1 : Hid (w1.there w.heap.size 0 (n * 4)) := there_below ht.out hlt0 hb1
      have hf1 : Hid (∀ i, i < k → w1.rangeAt w.heap.size (0 + i * 4) (V i).cells) := fun i hi => rangeAt_below (hf.out i hi) hb1
      have hb2 : Hid (Below w.heap.size w w1) := hb.out.trans (hb1.mono (by omega))
      obtain ⟨v0, v1, v2, v3, d0, d1, d2, d3, f0, f1, f2, f3⟩ := there4 (there_part (o' := k * 4) (n' := 4) ht1.out (by omega) (by omega))
      clear hb1 hlt0 ht hf hb hsz
      go_wp2
      refine ⟨⟨k + 1, by omega, by go_num, ?_, ?_, ?_, ?_⟩, by simp [intOf]; omega⟩
      · exact Below.setCells' w.heap.size (Nat.le_refl _) (V k).cells (k * 4) w1 hb2.out
      · exact World.there_setCells (w := w1) ht1.out w.heap.size (k * 4) (V k).cells
      · exact fill_step (w := w1) (C := fun i => (V i).cells) (k := 4) (fun i _ => Is.len _) (there_part ht1.out (by omega) (by omega)) hf1.out
      · show w.heap.size < (w1.setCells w.heap.size (k * 4) (V k).cells).heap.size
        rw [size_setCells]; exact hsz1.out
    · go_wp2
      go_ret
      have hkn : k = n := by omega
      subst hkn
      exact ⟨rfl, hb.out, ht.out, hf.out, hsz.out⟩

end Go.Proofs.YtdhnjkcebaahcaaDoor.Copy
