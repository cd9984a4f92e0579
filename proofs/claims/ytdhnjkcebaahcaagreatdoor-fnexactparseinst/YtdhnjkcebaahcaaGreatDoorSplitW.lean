import Derived.Test.YtdhnjkcebaahcaaGreatDoorSplitS
namespace Go.Proofs.YtdhnjkcebaahcaaGreatDoor.Parse
open Go Go.RowKit Go.Proofs.YtdhnjkcebaahcaaGreatDoor.Mem
set_option linter.unusedVariables false
set_option linter.unusedSimpArgs false
attribute [local go_sem ↓] Go.wp_at_zero Go.wp_at_succ

theorem flds_of {B n : Nat} {w : World} {v : Value} {vs : List Value} {L : List (List UInt8)} {B' : Nat} (h : w.ownsRow B 22 1 v n vs) (hp : Pieces B' w vs L) : ∃ p c, v = .slice p L.length c ∧ Flds w p L := by
  have hlen := hp.len
  have hn : n = L.length := by have := h.1; omega
  rcases h.2 with ⟨rfl, h0⟩ | ⟨g, cap, cur, rfl, hg, hblk, hcap, -, -, ht⟩
  · exact ⟨none, 0, by rw [← hn, h0], fun k hk => by omega⟩
  · refine ⟨_, _, by rw [hn], fun k hk => ?_⟩
    obtain ⟨u, hu, hpc⟩ := hp.get k hk
    obtain ⟨a, c, rfl, h1, h2⟩ := hpc.rd
    refine ⟨g, a, c, rfl, ?_, h1, h2⟩
    rw [blk_cell hblk k]
    rw [← ht, List.getElem?_take] at hu
    split at hu
    · simpa using hu
    · cases hu

set_option maxHeartbeats 3200000 in
set_option maxRecDepth 100000 in
theorem splitS (a : Option Addr) (bs : List UInt8) (n c : Nat) (sep : UInt8) (z : Int) (w : World) (hn : n = bs.length) (hz : (sep.toNat : Int) = z) (hr : Rd w a bs) (hl : n ≤ 1000000) :
    Calls Tryz.prog 12 #[.slice a n c, .int .u8 z] w fun e w' => ∃ p c', e = .returned (.slice p (split sep bs).length c') ∧ Flds w' p (split sep bs) ∧ Below w.heap.size w w' := by
  obtain ⟨i0, hi, hz0, hz1, hz2⟩ := info_parts infoB
  obtain ⟨j0, hj, hy0, hy1, hy2⟩ := info_parts infoBS
  have hR := Hid.mk hr
  have hN := Hid.mk hn
  have HZ := Hid.mk hz
  clear hr hn hz
  go_enter Tryz.func12, Tryz.ntmps12
  go_wp2
  go_loopw [5, 6, 7] (fun vo vc i wr => ∃ k : Nat, k ≤ n ∧ i = .int .i64 k ∧ ∃ B vs N, w.heap.size ≤ B ∧ B ≤ wr.heap.size ∧ N ≤ k ∧ Hid (Own B wr vc (spl sep (bs.take k)).2) ∧ Hid (wr.ownsRow w.heap.size 22 1 vo N vs) ∧ Hid (Pieces B wr vs (spl sep (bs.take k)).1) ∧ Hid (Below w.heap.size w wr)) (fun _ _ i _ => n - (intOf i).toNat)
  case atStart =>
    refine ⟨0, Nat.zero_le _, rfl, w.heap.size + 1, [], 0, by omega, by simp, by omega, ?_, row_below (own_new0 w 22) (below_alloc' (Below.refl _ _) _), trivial, below_alloc' (below_alloc' (Below.refl _ _) _) _⟩
    have := own_new0 (w.alloc (.cells #[] 22)) 5
    rw [World.size_alloc] at this
    exact this
  case round =>
    obtain ⟨k, hk, rfl, B, vs, N, hB0, hB1, hNk, ho, hrow, hps, hb⟩ := hrel
    have hsl := spl_len sep (bs.take k)
    rw [List.length_take] at hsl
    have hsz := hb.out.size
    obtain ⟨ao, co, hvo, -⟩ := row_shape hrow.out
    rw [hvo] at hrow ⊢
    obtain ⟨C, hC⟩ : ∃ C, C = (spl sep (bs.take k)).2.length := ⟨_, rfl⟩
    have hCn : C ≤ k := by omega
    have HCC := Hid.mk hC
    have hown := Hid.mk (show wr.ownsRow B 5 1 _ (spl sep (bs.take k)).2.length (Lib.byteCells (spl sep (bs.take k)).2) from ho.out)
    rw [← hC] at hown
    obtain ⟨ac, cc, hvc, -⟩ := row_shape hown.out
    rw [hvc] at hown ho ⊢
    clear hvo hvc hC hsl
    by_cases hlt : k < n
    · have hkl : k < bs.length := by rw [← hN.out]; exact hlt
      have y1 := (hR.out.below hb.out) k hkl
      obtain ⟨g, o, rfl, y1⟩ := y1
      obtain ⟨q, hq⟩ : ∃ q, q = bs[k].toNat := ⟨_, rfl⟩
      rw [← hq] at y1
      have HS := Hid.mk (spl_take (sep := sep) hkl)
      have HQ := Hid.mk hq
      clear hq
      have k1 : (k : Int) < (n : Int) := by omega
      have k0 : (0 : Int) ≤ (k : Int) := by omega
      by_cases heq : bs[k] = sep
      · have hqz : ((q : Int) == z) = true := by
          have h1 := HQ.out
          have h2 := HZ.out
          rw [heq] at h1
          rw [h1, h2]; simp
        have HS' : Hid (spl sep (bs.take (k + 1)) = ((spl sep (bs.take k)).1 ++ [(spl sep (bs.take k)).2], [])) := by unfold Hid; rw [HS.out]; unfold stp; rw [if_pos heq]
        clear HS
        go_wp2_with (at_builtin; refine wpList_append_own _ rfl _ _ 37 rfl w.heap.size 22 j0 (.slice none 0 0) 1 24 Tryz.underlying37 hj hy0 hy1 hy2 rfl (by decide) _ _ _ rfl (hrow.out.alloc _) ⟨wr.heap.size, 0, none⟩ 1 1 [Value.slice ac C cc] rfl rfl (by intro j u' hj; match j, hj with | 0, hj => simp at hj; subst hj; simp [Addr.add]) (by intro u' hu'; simp at hu'; subst hu'; rfl) (by unfold maxLen; omega) (by omega) (by simp; omega) ?_)
        intro v2 w2 hown2 hgrow _
        have hb2 : Hid (Below w.heap.size w w2) := (hb.out.alloc hsz _).grown hgrow (by simp; omega) (fun k hk => (hrow.out.lt k hk).1)
        have hkp : ∀ (g : Nat) (C : Array Value) (fr : Nat × Nat), wr.heap[g]? = some (.cells C 5 fr) → w2.heap[g]? = some (.cells C 5 fr) := fun g C fr hg => grown_other hgrow (hrow.out.alloc _) (blk_alloc hg _) (by decide)
        have hs2 : wr.heap.size ≤ w2.heap.size := by have := hgrow.size; simp at this; omega
        have hps2 : Hid (Pieces w2.heap.size (w2.alloc (.cells #[] 5)) (vs ++ [Value.slice ac C cc]) (spl sep (bs.take (k + 1))).1) := by
          unfold Hid
          rw [HS'.out]
          refine Pieces.snoc ?_ ?_
          · exact ho.out.piece.keep hs2 (fun g C fr _ hg => blk_alloc (hkp g C fr hg) _)
          · exact Pieces.keep (by omega) (fun g C fr _ hg => blk_alloc (hkp g C fr hg) _) hps.out
        have hrow2 : Hid ((w2.alloc (.cells #[] 5)).ownsRow w.heap.size 22 1 v2 (N + 1) (vs ++ [Value.slice ac C cc])) := hown2.alloc _
        have hown3 : Hid (Own w2.heap.size (w2.alloc (.cells #[] 5)) (.slice (some ⟨w2.heap.size, 0, none⟩) 0 0) (spl sep (bs.take (k + 1))).2) := by
          unfold Hid
          rw [HS'.out]
          exact own_new0 w2 5
        have hb3 : Hid (Below w.heap.size w (w2.alloc (.cells #[] 5))) := below_alloc' hb2.out _
        have hs3 := hb2.out.size
        clear hgrow hkp hown2
        refine Hid.out ?_
        refine Lib.hid ?_
        go_wp2
        exact ⟨⟨k + 1, by omega, by go_num, w2.heap.size, _, N + 1, hs3, by simp, by omega, hown3, hrow2, hps2, hb3⟩, by simp [intOf]; omega⟩
      · have hqz : ((q : Int) == z) = false := by
          have h1 := HQ.out
          have h2 := HZ.out
          simp only [beq_eq_false_iff_ne, ne_eq]
          intro e
          exact heq (UInt8.toNat_inj.1 (by omega))
        have HS' : Hid (spl sep (bs.take (k + 1)) = ((spl sep (bs.take k)).1, (spl sep (bs.take k)).2 ++ [bs[k]])) := by unfold Hid; rw [HS.out]; unfold stp; rw [if_neg heq]
        clear HS
        go_wp2_with (at_builtin; refine wpList_append_own _ rfl _ _ 22 rfl B 5 i0 (.int .u8 0) 1 1 Tryz.underlying22 hi hz0 hz1 hz2 rfl (by decide) _ _ _ rfl (hown.out.alloc _) ⟨wr.heap.size, 0, none⟩ 1 1 [Value.int .u8 (q : Int)] rfl rfl (by intro j u' hj; match j, hj with | 0, hj => simp at hj; subst hj; simp [Addr.add]) (by intro u' hu'; simp at hu'; subst hu'; rfl) (by unfold maxLen; omega) (by omega) (by simp; omega) ?_)
        intro v2 w2 hown2 hgrow _
        have hb2 : Hid (Below w.heap.size w w2) := (hb.out.alloc hsz _).grown hgrow (by simp; omega) (fun k hk => by have := (hown.out.lt k hk).1; omega)
        have hbB : Below B wr w2 := ((Below.refl _ _).alloc hB1 _).grown hgrow (by simp; omega) (fun k hk => (hown.out.lt k hk).1)
        have hown3 : Hid (Own B w2 v2 (spl sep (bs.take (k + 1))).2) := by
          unfold Hid
          rw [HS'.out]
          exact own_snoc HCC.out (by rw [HQ.out]) hown2
        have hrow2 : Hid (w2.ownsRow w.heap.size 22 1 (.slice ao N co) N vs) := row_grown (hrow.out.alloc _) hgrow (hown.out.alloc _) (by decide)
        have hps2 : Hid (Pieces B w2 vs (spl sep (bs.take (k + 1))).1) := by
          unfold Hid
          rw [HS'.out]
          exact Pieces.keep (Nat.le_refl _) (fun g C fr hg hh => by rw [hbB.block g hg]; exact hh) hps.out
        have hs2 : B ≤ w2.heap.size := by have := hbB.size; omega
        clear hgrow hbB hown2
        refine Hid.out ?_
        refine Lib.hid ?_
        go_wp2
        exact ⟨⟨k + 1, by omega, by go_num, B, vs, N, hB0, hs2, by omega, hown3, hrow2, hps2, hb2⟩, by simp [intOf]; omega⟩
    · obtain rfl : k = n := by omega
      have HT : Hid (bs.take k = bs) := List.take_of_length_le (by rw [← hN.out]; omega)
      go_wp2_with (at_builtin; refine wpList_append_own _ rfl _ _ 37 rfl w.heap.size 22 j0 (.slice none 0 0) 1 24 Tryz.underlying37 hj hy0 hy1 hy2 rfl (by decide) _ _ _ rfl (hrow.out.alloc _) ⟨wr.heap.size, 0, none⟩ 1 1 [Value.slice ac C cc] rfl rfl (by intro j u' hj; match j, hj with | 0, hj => simp at hj; subst hj; simp [Addr.add]) (by intro u' hu'; simp at hu'; subst hu'; rfl) (by unfold maxLen; omega) (by omega) (by simp; omega) ?_)
      intro v2 w2 hown2 hgrow _
      have hb2 : Hid (Below w.heap.size w w2) := (hb.out.alloc hsz _).grown hgrow (by simp; omega) (fun k hk => (hrow.out.lt k hk).1)
      have hkp : ∀ (g : Nat) (C : Array Value) (fr : Nat × Nat), wr.heap[g]? = some (.cells C 5 fr) → w2.heap[g]? = some (.cells C 5 fr) := fun g C fr hg => grown_other hgrow (hrow.out.alloc _) (blk_alloc hg _) (by decide)
      have hs2 : wr.heap.size ≤ w2.heap.size := by have := hgrow.size; simp at this; omega
      have hps2 : Pieces w2.heap.size w2 (vs ++ [Value.slice ac C cc]) (split sep bs) := by
        unfold split
        have e := HT.out
        rw [e] at ho hps
        refine Pieces.snoc ?_ ?_
        · exact ho.out.piece.keep hs2 (fun g C fr _ hg => hkp g C fr hg)
        · exact Pieces.keep (by omega) (fun g C fr _ hg => hkp g C fr hg) hps.out
      obtain ⟨p, c', hv2, hfl⟩ := flds_of hown2 hps2
      subst hv2
      have HF := Hid.mk hfl
      clear hgrow hkp hown2 hps2 hfl
      refine Hid.out ?_
      refine Lib.hid ?_
      go_wp2
      go_ret
      exact ⟨p, c', rfl, HF.out, hb2.out⟩
end Go.Proofs.YtdhnjkcebaahcaaGreatDoor.Parse
