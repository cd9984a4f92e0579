import Derived.Test.YtdpmdmgjlpiikaaMemS
import Derived.Test.YtdpmdmgjlpiikaaKit
namespace Go.Proofs.Ytdpmdmgjlpiikaa.CopyN
open Go Go.RowKit Go.Proofs.Ytdpmdmgjlpiikaa.Mem
set_option linter.unusedVariables false

theorem infoI : (Try.prog.info? 2).map (fun i => (i.zero, i.size, i.bytes)) = some (some (.int .i64 0), 1, 8) := by kernel_rfl

set_option maxHeartbeats 800000 in
set_option maxRecDepth 100000 in
theorem toInt64S (a : Option Addr) (n cap : Nat) (V : Nat → Int) (w : World) (hs : NumsAt w a n V) (hn : n ≤ 1048576) :
    Calls Try.prog 20 #[.slice a n cap] w fun e w' => e = .returned (.slice (some ⟨w.heap.size, 0, none⟩) n n) ∧ Below w.heap.size w w' ∧ w'.there w.heap.size 0 (n * 1) ∧ (∀ i, i < n → w'.rangeAt w.heap.size (0 + i * 1) (ci (V i))) ∧ w.heap.size < w'.heap.size := by
  have hmk := run_make_n (P := Try.prog) 41 2 _ 1 8 Try.underlying41 infoI n hn (by omega)
  have HS := Hid.mk hs
  clear hs
  go_enter Try.func20, Try.ntmps20
  go_wp2
  clear hmk
  go_loopw [4] (fun i wr => ∃ k : Nat, k ≤ n ∧ i = .int .i64 k ∧ Hid (Below w.heap.size w wr) ∧ Hid (wr.there w.heap.size 0 (n * 1)) ∧ Hid (∀ i, i < k → wr.rangeAt w.heap.size (0 + i * 1) (ci (V i))) ∧ Hid (w.heap.size < wr.heap.size)) (fun i _ => n - (intOf i).toNat)
  case atStart => exact ⟨0, Nat.zero_le _, rfl, (Below.refl _ _).alloc (Nat.le_refl _) _, by unfold Hid; rw [Nat.mul_one]; exact there_make _ _ _ _, fun i hi => absurd hi (Nat.not_lt_zero _), by simp [Hid]⟩
  case round =>
    obtain ⟨k, hk, rfl, hb, ht, hf, hsz⟩ := hrel
    by_cases hlt : k < n
    · obtain ⟨b, off, rfl, hs⟩ := NumsAt.at (HS.out.below hb.out) hlt
      obtain ⟨v0, d0, f0⟩ := there1 (there_part (o' := k) (n' := 1) ht.out (by omega) (by omega))
      have k0 : (0 : Int) ≤ (k : Int) := by omega
      have k1 : (k : Int) < (n : Int) := by omega
      go_wp2
      refine ⟨⟨k + 1, by omega, by go_num, ?_, ?_, ?_, ?_⟩, by simp [intOf]; omega⟩
      · exact Below.setCells' w.heap.size (Nat.le_refl _) (ci (V k)) k wr hb.out
      · exact World.there_setCells (w := wr) ht.out w.heap.size k (ci (V k))
      · have := fill_step (w := wr) (B := w.heap.size) (C := fun i => ci (V i)) (k := 1) (m := k) (fun i _ => ci.len _) (there_part ht.out (by omega) (by omega)) hf.out
        rw [Nat.mul_one] at this
        exact this
      · show w.heap.size < (wr.setCells w.heap.size k (ci (V k))).heap.size
        rw [size_setCells]; exact hsz.out
    · go_wp2
      go_ret
      have hkn : k = n := by omega
      subst hkn
      exact ⟨rfl, hb.out, ht.out, hf.out, hsz.out⟩

theorem numsCopy (a : Option Addr) (n cap : Nat) (V : Nat → Int) (w : World) (hs : NumsAt w a n V) (hn : n ≤ 1048576) :
    Calls Try.prog 20 #[.slice a n cap] w fun e w' => ∃ p, e = .returned (.slice (some ⟨p, 0, none⟩) n n) ∧ Below w.heap.size w w' ∧ NumsAt w' (some ⟨p, 0, none⟩) n V :=
  (toInt64S a n cap V w hs hn).mono fun e w' ⟨h1, h2, h3, h4, h5⟩ => ⟨_, h1, h2, Or.inr ⟨_, 0, rfl, h4⟩⟩
end Go.Proofs.Ytdpmdmgjlpiikaa.CopyN
