import Derived.Test.YtdhnjkcebaahcaaDoorEncS
import Derived.Laws.AppendOwnNone
namespace Go.Proofs.YtdhnjkcebaahcaaDoor.Enc
open Go Go.RowKit Go.Proofs.YtdhnjkcebaahcaaDoor.Mem Go.Proofs.YtdhnjkcebaahcaaDoor.ValC
set_option linter.unusedVariables false
set_option linter.unusedSimpArgs false
attribute [local go_sem ↓] Go.wp_at_zero Go.wp_at_succ

theorem infoIn : (Tryd.prog.info? 90).map (fun i => (i.zero, i.size, i.bytes)) = some (some (.agg #[.int .i64 0, .int .i64 0, .int .i64 0, .int .i64 0]), 4, 32) := by kernel_rfl
theorem row_shape' {B s n : Nat} {e : TypeId} {w : World} {v : Value} {xs : List Value} (h : w.ownsRow B e s v n xs) : ∃ a c, v = .slice a n c := by
  rcases h.2 with ⟨rfl, h0⟩ | ⟨g, cap, cur, rfl, h⟩
  · exact ⟨none, 0, by rw [h0]⟩
  · exact ⟨_, _, rfl⟩
/-- The cells of a block's first instructions. -/
def bc (X : Nat → Is) : Nat → List Value
  | 0 => []
  | k + 1 => bc X k ++ (X k).cells
theorem bc_len (X : Nat → Is) (n : Nat) : (bc X n).length = n * 4 := by
  induction n with
  | zero => rfl
  | succ k ih => rw [bc, List.length_append, ih, Is.len]; omega
theorem bc_one (X : Nat → Is) (n : Nat) : ∀ u ∈ bc X n, u.oneCell' = true := by
  induction n with
  | zero => intro u hu; simp [bc] at hu
  | succ k ih =>
    intro u hu
    rw [bc, List.mem_append] at hu
    rcases hu with hu | hu
    · exact ih u hu
    · simp only [Is.cells, List.mem_cons, List.not_mem_nil, or_false] at hu
      rcases hu with rfl | rfl | rfl | rfl <;> rfl
theorem bc_at {w : World} {b off : Nat} {X : Nat → Is} : ∀ {n : Nat}, (∀ i, i < n → w.rangeAt b (off + i * 4) (X i).cells) → ∀ j u, (bc X n)[j]? = some u → w.cell? ((⟨b, off, none⟩ : Addr).add j) = some u
  | 0, _, j, u, hu => by simp [bc] at hu
  | k + 1, h, j, u, hu => by
    rw [bc] at hu
    by_cases hj : j < (bc X k).length
    · rw [List.getElem?_append_left hj] at hu
      exact bc_at (fun i hi => h i (by omega)) j u hu
    · rw [List.getElem?_append_right (by omega)] at hu
      have := h k (by omega) (j - (bc X k).length) u hu
      rw [bc_len] at this hj
      rw [Addr.add_mid]
      rw [show off + k * 4 + (j - k * 4) = off + j by omega] at this
      exact this
def tot (nn : Nat → Nat) : Nat → Nat
  | 0 => 0
  | k + 1 => tot nn k + nn k
def cat (nn : Nat → Nat) (XX : Nat → Nat → Is) : Nat → List Value
  | 0 => []
  | k + 1 => cat nn XX k ++ bc (XX k) (nn k)
theorem tot_le {nn : Nat → Nat} {N : Nat} (h : ∀ i, i < N → nn i ≤ 16384) : ∀ k, k ≤ N → tot nn k ≤ k * 16384
  | 0, _ => by simp [tot]
  | k + 1, hk => by
    have := tot_le h k (by omega)
    have := h k (by omega)
    unfold tot; omega

set_option maxHeartbeats 3200000 in
set_option maxRecDepth 100000 in
theorem seqS (g N cap : Nat) (nn : Nat → Nat) (XX : Nat → Nat → Is) (aa : Nat → Addr) (cc : Nat → Nat) (w : World) (hN : N ≤ 10) (hc : ∀ i, i < N → w.cell? ⟨g, i, none⟩ = some (.slice (some (aa i)) (nn i) (cc i)))
    (hs : ∀ i, i < N → SliceAt w (some (aa i)) (nn i) 4 (fun j => (XX i j).cells)) (hn : ∀ i, i < N → nn i ≤ 16384) :
    Calls Tryd.prog 53 #[.slice (some ⟨g, 0, none⟩) N cap] w fun e w' => ∃ v, e = .returned v ∧ w'.ownsRow w.heap.size 90 4 v (tot nn N) (cat nn XX N) ∧ Below w.heap.size w w' := by
  obtain ⟨i0, hi, hz0, hz1, hz2⟩ := info_parts infoIn
  have HC := Hid.mk hc
  have HS := Hid.mk hs
  have HN := Hid.mk hn
  clear hc hs hn
  go_enter Tryd.func53, Tryd.ntmps53
  go_wp2
  go_loopw [3, 4] (fun v i wr => ∃ k : Nat, k ≤ N ∧ i = .int .i64 k ∧ Hid (wr.ownsRow w.heap.size 90 4 v (tot nn k) (cat nn XX k)) ∧ Hid (Below w.heap.size w wr)) (fun _ i _ => N - (intOf i).toNat)
  case atStart => exact ⟨0, Nat.zero_le _, rfl, ⟨by simp [tot, cat], Or.inr ⟨w.heap.size, 0, #[], rfl, Nat.le_refl _, blk_new _ _, Nat.le_refl _, by unfold maxLen; omega, by simp, by simp [cat]⟩⟩, by unfold Hid; go_grown⟩
  case round =>
    obtain ⟨k, hk, rfl, ho, hb⟩ := hrel
    have htl := tot_le HN.out k hk
    have hsz := hb.out.size
    obtain ⟨a0, c0, hv⟩ := row_shape' ho.out
    rw [hv] at ho ⊢
    clear hv
    by_cases hlt : k < N
    · have hck := cell_keep hb.out (HC.out k hlt)
      have hnk := HN.out k hlt
      have hls : Hid (∀ j u, (bc (XX k) (nn k))[j]? = some u → wr.cell? ((aa k).add j) = some u) := by
        rcases HS.out k hlt with h0 | ⟨b, off, he, hr⟩
        · intro j u hu; rw [h0] at hu; simp [bc] at hu
        · injection he with he
          rw [he]
          exact bc_at (fun i hi => rangeAt_below (hr i hi) hb.out)
      have k0 : (0 : Int) ≤ (k : Int) := by omega
      have k1 : (k : Int) < (N : Int) := by omega
      go_wp2_with (at_builtin; refine wpList_append_own _ rfl _ _ 46 rfl w.heap.size 90 i0 (.agg #[.int .i64 0, .int .i64 0, .int .i64 0, .int .i64 0]) 4 32 Tryd.underlying46 hi hz0 hz1 hz2 rfl (by decide) _ _ _ rfl ho.out (aa k) (nn k) (cc k) (bc (XX k) (nn k)) rfl (bc_len _ _) hls.out (bc_one _ _) (by unfold maxLen; omega) (by omega) hsz ?_)
      intro v2 w2 hown2 hgrow _
      have hb2 : Hid (Below w.heap.size w w2) := hb.out.grown hgrow hsz (fun j hj => (ho.out.lt j hj).1)
      have ho2 : Hid (w2.ownsRow w.heap.size 90 4 v2 (tot nn (k + 1)) (cat nn XX (k + 1))) := hown2
      clear hown2 hgrow
      refine Hid.out ?_
      refine Lib.hid ?_
      go_wp2
      exact ⟨⟨k + 1, by omega, by go_num, ho2, hb2⟩, by simp [intOf]; omega⟩
    · obtain rfl : N = k := by omega
      go_wp2
      go_ret
      exact ⟨_, rfl, ho.out, hb.out⟩
end Go.Proofs.YtdhnjkcebaahcaaDoor.Enc
