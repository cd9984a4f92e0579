import Derived.Test.YthobdaeglhdhnaaGreatDoorPp16
import Derived.Test.YthobdaeglhdhnaaGreatDoorPp19
import Derived.Lib.SmallJoins
namespace Go.Proofs.YthobdaeglhdhnaaGreatDoor.Syn
open Go Go.RowKit Go.Proofs.YthobdaeglhdhnaaGreatDoor Go.Proofs.YthobdaeglhdhnaaGreatDoor.Mem
open Go.Proofs.YthobdaeglhdhnaaGreatDoor.Print (Own infoB byteCells_one)
set_option linter.unusedVariables false
set_option linter.unusedSimpArgs false
attribute [local go_sem ↓] Go.wp_at_zero Go.wp_at_succ

/-- The first parts, one behind the other. -/
def catT (ts : Nat → List UInt8) : Nat → List UInt8
  | 0 => []
  | j + 1 => catT ts j ++ ts j
theorem catT_len {ts : Nat → List UInt8} {n : Nat} (h : ∀ i, i < n → (ts i).length ≤ 1000000) : (catT ts n).length ≤ 1000000 * n := by
  induction n with
  | zero => simp [catT]
  | succ n ih =>
    have h1 := ih fun i hi => h i (by omega)
    have h2 := h n (by omega)
    simp only [catT, List.length_append]
    omega
set_option maxHeartbeats 1600000 in
set_option maxRecDepth 100000 in
theorem glueS (N : Nat) (ts : Nat → List UInt8) (vs : Nat → Value) (g off c : Nat) (w : World) (hc : ∀ i, i < N → w.cell? ⟨g, off + i, none⟩ = some (vs i)) (hT : ∀ i, i < N → Rt w (vs i) (ts i)) (hN : N ≤ 20) (hl : ∀ i, i < N → (ts i).length ≤ 1000000) :
    Calls Tryz.prog 25 #[.slice (some ⟨g, off, none⟩) N c] w fun e w' => ∃ v, e = .returned v ∧ Own w.heap.size w' v (catT ts N) ∧ Below w.heap.size w w' := by
  have HC := Hid.mk hc
  have HT := Hid.mk hT
  have HL := Hid.mk hl
  have HO : Hid (Own w.heap.size (w.alloc (.cells #[] 5)) (.slice (some ⟨w.heap.size, 0, none⟩) 0 0) []) := Print.own_empty w _ rfl
  have HB := Hid.mk (below_alloc' (Below.refl w.heap.size w) (.cells #[] 5))
  clear hc hT hl
  go_enter Tryz.func25, Tryz.ntmps25
  go_wp2
  go_loopw [3, 4] (fun b i wr => ∃ j : Nat, j ≤ N ∧ i = .int .i64 (j : Int) ∧ Hid (Own w.heap.size wr b (catT ts j)) ∧ Hid (Below w.heap.size w wr)) (fun _ i _ => N - (intOf i).toNat)
  case atStart => exact ⟨0, Nat.zero_le _, rfl, HO, HB⟩
  case round =>
    obtain ⟨j, hj, rfl, ho, hb⟩ := hrel
    clear HO HB
    have hBr := hb.out.size
    by_cases hlt : j < N
    · have hlj := HL.out j hlt
      have hcl := catT_len (ts := ts) (n := j) fun i hi => HL.out i (by omega)
      obtain ⟨g', off', c', hv, ⟨Cg, fg, hgb⟩, hcs⟩ := HT.out j hlt
      have hg' := blk_lt hgb
      clear hgb
      have hlt0 := World.block_lt_of_cell? w _ (HC.out j hlt)
      have e0 : wr.cell? ⟨g, off + j, none⟩ = some (.slice (some ⟨g', off', none⟩) (ts j).length c') := by rw [← hv, hb.out.cell hlt0]; exact HC.out j hlt
      have k0 : (0 : Int) ≤ (j : Int) := by omega
      have k1 : (j : Int) < (N : Int) := by omega
      have hst : Hid (catT ts (j + 1) = catT ts j ++ ts j) := rfl
      have HCS : Hid (∀ k u, (Lib.byteCells (ts j))[k]? = some u → wr.cell? ((⟨g', off', none⟩ : Addr).add k) = some u) := fun k u hu => by rw [Addr.add_mid, hb.out.cell hg']; exact hcs k u hu
      clear hv hcs hlt0
      obtain ⟨T, hTe⟩ : ∃ T, T = ts j := ⟨_, rfl⟩
      rw [← hTe] at hlj e0 hst HCS
      clear hTe
      go_wp2_with (at_builtin; refine wpList_bytes rfl _ _ rfl w.heap.size _ _ rfl ho.out ⟨g', off', none⟩ _ _ rfl T rfl HCS.out hBr (by omega) ?_)
      intro v2 w2 ho2 hk2
      have HO2 : Hid (Own w.heap.size w2 v2 (catT ts (j + 1))) := by unfold Hid; rw [hst.out]; exact ho2
      have HB2 := Hid.mk (hb.out.trans hk2.1)
      clear ho2 hk2 e0
      refine Hid.out ?_
      refine Lib.hid ?_
      go_wp2
      exact ⟨⟨j + 1, by omega, by go_num, HO2, HB2⟩, by simp [intOf]; omega⟩
    · obtain rfl : j = N := by omega
      have k1 : decide ((j : Int) < (j : Int)) = false := by simp
      go_wp2
      go_ret
      exact ⟨_, rfl, ho.out, hb.out⟩
end Go.Proofs.YthobdaeglhdhnaaGreatDoor.Syn
