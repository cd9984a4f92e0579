import Derived.Test.YthobdaeglhdhnaaGreatDoorPp43
namespace Go.Proofs.YthobdaeglhdhnaaGreatDoor.LawP
open Go Go.RowKit Go.Proofs.YthobdaeglhdhnaaGreatDoor.Mem Go.Proofs.YthobdaeglhdhnaaGreatDoor.Syn Go.Proofs.YthobdaeglhdhnaaGreatDoor.OpenP
set_option linter.unusedVariables false
set_option linter.unusedSimpArgs false
attribute [local go_sem ↓] Go.wp_at_zero Go.wp_at_succ

theorem OpCp.sets {B n : Nat} {a : Option Addr} {E : Nat → Po} (b : Nat) (hb : b < B) : ∀ (vs : List Value) (o : Nat) (w : World), OpCp w B a n E → OpCp (w.setCells b o vs) B a n E
  | [], _, _, h => h
  | v :: r, o, w, h => OpCp.sets b hb r (o + 1) _ (h.set ⟨b, o, none⟩ hb v)
/-- A program that is a fresh copy. -/
structure PrCp (w : World) (B : Nat) (a : Option Addr) (P : Pr) (L : Nat → Lo) : Prop where
  g : ∃ g, a = some ⟨g, 0, none⟩ ∧ B ≤ g ∧ g < w.heap.size ∧ w.there g 0 (P.n * 7) ∧ ∀ i, i < P.n → w.rangeAt g (0 + i * 7) ((P.I i).cells (L i))
  e : ∀ i, i < P.n → OpCp w B (L i).aE (P.I i).nE (P.I i).E
  f : ∀ i, i < P.n → OpCp w B (L i).aF (P.I i).nF (P.I i).F
  o : ∀ g, a = some ⟨g, 0, none⟩ → ∀ i, i < P.n → OpCp w (g + 1) (L i).aE (P.I i).nE (P.I i).E ∧ OpCp w (g + 1) (L i).aF (P.I i).nF (P.I i).F
theorem PrCp.at {w : World} {B : Nat} {a : Option Addr} {P : Pr} {L : Nat → Lo} (h : PrCp w B a P L) : PrAt w a P L := by
  obtain ⟨g, ha, -, -, -, h4⟩ := h.g
  exact ⟨Or.inr ⟨g, 0, ha, h4⟩, fun i hi => (h.e i hi).at, fun i hi => (h.f i hi).at⟩
theorem PrCp.below {w w' : World} {B : Nat} {a : Option Addr} {P : Pr} {L : Nat → Lo} (h : PrCp w B a P L) (hb : Below w.heap.size w w') : PrCp w' B a P L := by
  obtain ⟨g, ha, h1, h2, h3, h4⟩ := h.g
  exact ⟨⟨g, ha, h1, Nat.lt_of_lt_of_le h2 hb.size, there_below h3 h2 hb, fun i hi => rangeAt_below (h4 i hi) hb⟩, fun i hi => (h.e i hi).below hb, fun i hi => (h.f i hi).below hb, fun g e i hi => ⟨(h.o g e i hi).1.below hb, (h.o g e i hi).2.below hb⟩⟩
theorem PrCp.low {w : World} {B B' : Nat} {a : Option Addr} {P : Pr} {L : Nat → Lo} (h : PrCp w B a P L) (hB : B' ≤ B) : PrCp w B' a P L := by
  obtain ⟨g, ha, h1, h2⟩ := h.g
  exact ⟨⟨g, ha, by omega, h2⟩, fun i hi => (h.e i hi).low hB, fun i hi => (h.f i hi).low hB, h.o⟩
theorem PrCp.set {w : World} {B : Nat} {a : Option Addr} {P : Pr} {L : Nat → Lo} (h : PrCp w B a P L) (p : Addr) (hp : p.block < B) (v : Value) : PrCp (w.setCell p v) B a P L := by
  obtain ⟨g, ha, h1, h2, h3, h4⟩ := h.g
  exact ⟨⟨g, ha, h1, by rw [size_set]; exact h2, there_set h3 p (by omega) v, fun i hi => rangeAt_set_other (h4 i hi) (by omega) v⟩, fun i hi => (h.e i hi).set p hp v, fun i hi => (h.f i hi).set p hp v, fun g' e i hi => by rw [ha] at e; injection e with e; injection e with e; subst e; exact ⟨(h.o g ha i hi).1.set p (by omega) v, (h.o g ha i hi).2.set p (by omega) v⟩⟩
theorem infoIt : (Tryz.prog.info? 42).map (fun i => (i.zero, i.size, i.bytes)) = some (some (.agg #[.int .i64 0, .string ⟨#[]⟩, .slice none 0 0, .slice none 0 0, .int .i64 0, .int .i64 0, .int .i64 0]), 7, 96) := by kernel_rfl

set_option maxHeartbeats 1600000 in
set_option maxRecDepth 100000 in
theorem toItemS (P : Pr) (a : Option Addr) (cap : Nat) (L : Nat → Lo) (w : World) (hs : PrAt w a P L) (hn : P.n ≤ 1048576) (hc : cnt P P.n ≤ 1048576) :
    Calls Tryz.prog 16 #[.slice a P.n cap] w fun e w' => ∃ (L' : Nat → Lo) (a' : Option Addr), e = .returned (.slice a' P.n P.n) ∧ Below w.heap.size w w' ∧ PrCp w' w.heap.size a' P L' := by
  have H := Hid.mk hs
  have HC : Hid (∀ k, k < P.n → (P.I k).nE + (P.I k).nF ≤ 1048576) := fun k hk => Nat.le_trans (cnt_at P hk) hc
  clear hs hc
  obtain ⟨N, hN⟩ : ∃ N, N = P.n := ⟨_, rfl⟩
  rw [← hN] at hn HC
  have HN := Hid.mk hN
  rw [← hN]
  clear hN
  have hmk := run_make_n (P := Tryz.prog) 28 42 _ 7 96 Tryz.underlying28 infoIt N hn (by omega)
  go_enter Tryz.func16, Tryz.ntmps16
  go_wp2
  clear hmk
  go_loopw [4] (fun i wr => ∃ (k : Nat) (M : Nat → Lo), k ≤ N ∧ i = .int .i64 k ∧ Hid (Below w.heap.size w wr) ∧ Hid (wr.there w.heap.size 0 (N * 7)) ∧ Hid (∀ i, i < k → wr.rangeAt w.heap.size (0 + i * 7) ((P.I i).cells (M i))) ∧ Hid (∀ i, i < k → OpCp wr (w.heap.size + 1) (M i).aE (P.I i).nE (P.I i).E ∧ OpCp wr (w.heap.size + 1) (M i).aF (P.I i).nF (P.I i).F) ∧ Hid (w.heap.size < wr.heap.size)) (fun i _ => N - (intOf i).toNat)
  case atStart => exact ⟨0, L, Nat.zero_le _, rfl, (Below.refl _ _).alloc (Nat.le_refl _) _, there_make _ _ _ _, fun i hi => absurd hi (Nat.not_lt_zero _), fun i hi => absurd hi (Nat.not_lt_zero _), by simp [Hid]⟩
  case round =>
    obtain ⟨k, M, hk, rfl, hb, ht, hf, ho, hsz⟩ := hrel
    by_cases hlt : k < N
    · have hkP : k < P.n := by rw [← HN.out]; exact hlt
      have hE := Hid.mk ((H.out.e k hkP).below hb.out)
      have hF := Hid.mk ((H.out.f k hkP).below hb.out)
      have hcn := HC.out k hlt
      have hlt0 : w.heap.size < wr.heap.size := hsz.out
      rcases H.out.s with h0 | ⟨b, off, rfl, h0⟩
      · omega
      obtain ⟨c0, c1, c2, c3, c4, c5, c6⟩ := It.at (rangeAt_below (h0 k hkP) hb.out)
      clear h0
      obtain ⟨it, hit⟩ : ∃ it, it = P.I k := ⟨_, rfl⟩
      rw [← hit] at c0 c1 c2 c3 c4 c5 c6 hE hF hcn
      have HIt := Hid.mk hit
      clear hit
      generalize L k = lo at c2 c3 hE hF
      go_wp2_with fail
      refine (toItem it lo _ hE.out hF.out (by omega) (by omega)).mono ?_
      rintro e w1 ⟨aE, aF, rfl, hb1, qE, qF⟩
      clear c0 c1 c2 c3 c4 c5 c6
      have hsz1 : Hid (w.heap.size < w1.heap.size) := Nat.lt_of_lt_of_le hsz.out hb1.size
      have ht1 : Hid (w1.there w.heap.size 0 (N * 7)) := there_below ht.out hlt0 hb1
      have hf1 : Hid (∀ i, i < k → w1.rangeAt w.heap.size (0 + i * 7) ((P.I i).cells (M i))) := fun i hi => rangeAt_below (hf.out i hi) hb1
      have ho1 : Hid (∀ i, i < k → OpCp w1 (w.heap.size + 1) (M i).aE (P.I i).nE (P.I i).E ∧ OpCp w1 (w.heap.size + 1) (M i).aF (P.I i).nF (P.I i).F) := fun i hi => ⟨(ho.out i hi).1.below hb1, (ho.out i hi).2.below hb1⟩
      have hb2 : Hid (Below w.heap.size w w1) := hb.out.trans (hb1.mono (by omega))
      have QE := Hid.mk (qE.low (show w.heap.size + 1 ≤ wr.heap.size by omega))
      have QF := Hid.mk (qF.low (show w.heap.size + 1 ≤ wr.heap.size by omega))
      obtain ⟨M', hM'⟩ : ∃ M' : Nat → Lo, M' = fun i => if i = k then ⟨aE, aF, it.nE, it.nF⟩ else M i := ⟨_, rfl⟩
      have hMk : Hid (M' k = ⟨aE, aF, it.nE, it.nF⟩) := by unfold Hid; rw [hM']; simp
      have hMi : Hid (∀ i, i < k → M' i = M i) := fun i hi => by rw [hM']; simp; omega
      have hcells : Hid ((P.I k).cells (M' k) = [.int .i64 it.k, .string ⟨it.n.toArray⟩, .slice aE it.nE it.nE, .slice aF it.nF it.nF, .int .i64 it.K, .int .i64 it.lo, .int .i64 it.hi]) := by unfold Hid; rw [hMk.out, ← HIt.out]; rfl
      obtain ⟨v0, v1, v2, v3, v4, v5, v6, d0, d1, d2, d3, d4, d5, d6, f0, f1, f2, f3, f4, f5, f6⟩ := there7 (there_part (o' := k * 7) (n' := 7) ht1.out (by omega) (by omega))
      clear hb1 hlt0 ht hf hb hsz qE qF ho hM' hE hF
      go_wp2
      refine ⟨⟨k + 1, M', by omega, by go_num, ?_, ?_, ?_, ?_, ?_⟩, by simp [intOf]; omega⟩
      · exact Below.setCells' w.heap.size (Nat.le_refl _) [.int .i64 it.k, .string ⟨it.n.toArray⟩, .slice aE it.nE it.nE, .slice aF it.nF it.nF, .int .i64 it.K, .int .i64 it.lo, .int .i64 it.hi] (k * 7) w1 hb2.out
      · exact World.there_setCells (w := w1) ht1.out w.heap.size (k * 7) [.int .i64 it.k, .string ⟨it.n.toArray⟩, .slice aE it.nE it.nE, .slice aF it.nF it.nF, .int .i64 it.K, .int .i64 it.lo, .int .i64 it.hi]
      · have := fill_step (w := w1) (m := k) (C := fun i => (P.I i).cells (M' i)) (k := 7) (fun i _ => It.len _ _) (there_part ht1.out (by omega) (by omega)) (fun i hi => by rw [hMi.out i hi]; exact hf1.out i hi)
        rw [hcells.out] at this
        exact this
      · intro i hi
        by_cases e : i = k
        · subst e
          rw [hMk.out, ← HIt.out]
          exact ⟨OpCp.sets w.heap.size (by omega) [.int .i64 it.k, .string ⟨it.n.toArray⟩, .slice aE it.nE it.nE, .slice aF it.nF it.nF, .int .i64 it.K, .int .i64 it.lo, .int .i64 it.hi] (i * 7) w1 QE.out, OpCp.sets w.heap.size (by omega) [.int .i64 it.k, .string ⟨it.n.toArray⟩, .slice aE it.nE it.nE, .slice aF it.nF it.nF, .int .i64 it.K, .int .i64 it.lo, .int .i64 it.hi] (i * 7) w1 QF.out⟩
        · rw [hMi.out i (by omega)]
          exact ⟨OpCp.sets w.heap.size (by omega) [.int .i64 it.k, .string ⟨it.n.toArray⟩, .slice aE it.nE it.nE, .slice aF it.nF it.nF, .int .i64 it.K, .int .i64 it.lo, .int .i64 it.hi] (k * 7) w1 (ho1.out i (by omega)).1, OpCp.sets w.heap.size (by omega) [.int .i64 it.k, .string ⟨it.n.toArray⟩, .slice aE it.nE it.nE, .slice aF it.nF it.nF, .int .i64 it.K, .int .i64 it.lo, .int .i64 it.hi] (k * 7) w1 (ho1.out i (by omega)).2⟩
      · show w.heap.size < (w1.setCells w.heap.size (k * 7) [.int .i64 it.k, .string ⟨it.n.toArray⟩, .slice aE it.nE it.nE, .slice aF it.nF it.nF, .int .i64 it.K, .int .i64 it.lo, .int .i64 it.hi]).heap.size
        rw [size_setCells]; exact hsz1.out
    · obtain rfl : k = N := by omega
      have k1 : decide ((k : Int) < (k : Int)) = false := by simp
      go_wp2
      go_ret
      have e := HN.out
      refine ⟨M, some ⟨w.heap.size, 0, none⟩, rfl, hb.out, ⟨w.heap.size, rfl, Nat.le_refl _, hsz.out, by rw [← e]; exact ht.out, fun i hi => hf.out i (by omega)⟩, fun i hi => (ho.out i (by omega)).1.low (by omega), fun i hi => (ho.out i (by omega)).2.low (by omega), fun g e i hi => by injection e with e; injection e with e; subst e; exact ho.out i (by omega)⟩

set_option maxHeartbeats 800000 in
theorem toProg (P : Pr) (a : Option Addr) (c : Nat) (L : Nat → Lo) (w : World) (hs : PrAt w a P L) (hn : P.n ≤ 1048576) (hc : cnt P P.n ≤ 1048576) :
    Calls Tryz.prog 6 #[.agg #[.slice a P.n c]] w fun e w' => ∃ (L' : Nat → Lo) (a' : Option Addr), e = .returned (.agg #[.slice a' P.n P.n]) ∧ Below w.heap.size w w' ∧ PrCp w' w.heap.size a' P L' := by
  have H := Hid.mk hs
  have HC := Hid.mk hc
  clear hs hc
  go_enter Tryz.func6, Tryz.ntmps6
  go_wp2_with fail
  obtain ⟨W, hW⟩ : ∃ W : World, W = ((w.alloc (.cells #[.slice a P.n c] 24)).alloc (.cells #[.slice none 0 0] 30)).alloc (.cells #[.slice none 0 0] 30) := ⟨_, rfl⟩
  rw [← hW]
  have RW := Hid.mk (show W.heap[w.heap.size + 1]? = some (.cells #[.slice none 0 0] 30) by rw [hW]; exact blk_alloc (blk_new1 w _ _) _)
  have OW := Hid.mk (show W.heap[w.heap.size + 1 + 1]? = some (.cells #[.slice none 0 0] 30) by rw [hW]; exact blk_new2 w _ _ _)
  have BW : Hid (Below w.heap.size w W) := by unfold Hid; rw [hW]; go_grown
  clear hW
  have zO := blk_lt OW.out
  refine (toItemS P a c L _ (H.out.below BW.out) hn HC.out).mono ?_
  rintro e w1 ⟨L', a', rfl, hb1, hcp⟩
  have B1 := Hid.mk (below_then BW.out hb1)
  have R1 := Hid.mk (blk_below RW.out hb1)
  have O1 := Hid.mk (blk_below OW.out hb1)
  have C1 := Hid.mk hcp
  clear hb1 hcp RW OW BW
  have o0 := blk_cell O1.out 0
  have g0 := blk_unfrozen O1.out 0
  have r0 := blk_cell R1.out 0
  have q0 := blk_unfrozen R1.out 0
  simp only [List.getElem?_toArray, List.getElem?_cons_zero] at o0 r0
  go_wp2
  obtain ⟨Z, hZ⟩ : ∃ Z : World, Z = (w1.setCell ⟨w.heap.size + 1 + 1, 0, none⟩ (.slice a' P.n P.n)).setCell ⟨w.heap.size + 1, 0, none⟩ (.slice a' P.n P.n) := ⟨_, rfl⟩
  rw [← hZ]
  have RZ := blk_cell (show Z.heap[w.heap.size + 1]? = some (.cells #[.slice a' P.n P.n] 30) by rw [hZ]; have := blk_set (blk_set_other (p := ⟨w.heap.size + 1 + 1, 0, none⟩) R1.out (by show w.heap.size + 1 ≠ w.heap.size + 1 + 1; omega) (.slice a' P.n P.n)) 0 (.slice a' P.n P.n); simpa using this) 0
  simp only [List.getElem?_toArray, List.getElem?_cons_zero] at RZ
  have BZ : Below w.heap.size w Z := by rw [hZ]; exact below_set (below_set B1.out _ (by show w.heap.size ≤ w.heap.size + 1 + 1; omega) _) _ (by show w.heap.size ≤ w.heap.size + 1; omega) _
  have CZ : PrCp Z W.heap.size a' P L' := by rw [hZ]; exact (C1.out.set _ zO _).set _ (by show w.heap.size + 1 < W.heap.size; omega) _
  clear hZ
  refine bodyPost_ret (v := .agg #[.slice a' P.n P.n]) (by simp [results, Tryz.results6, go_sem, RZ]; try rfl) rfl ?_
  exact ⟨L', a', rfl, BZ, CZ.low (by omega)⟩
end Go.Proofs.YthobdaeglhdhnaaGreatDoor.LawP
