import Derived.Test.YtfoigigbggickaaDoorPx01
import Derived.Test.YtfoigigbggickaaDoorPq50
namespace Go.Proofs.YtfoigigbggickaaDoor.Par
open Go Go.RowKit Go.Proofs.YtfoigigbggickaaDoor.Mem Go.Proofs.YtfoigigbggickaaDoor.Syn Go.Proofs.YtfoigigbggickaaDoor.Parse Go.Proofs.YtfoigigbggickaaDoor.MarksB
set_option linter.unusedVariables false
set_option linter.unusedSimpArgs false
attribute [local go_sem ↓] Go.wp_at_zero Go.wp_at_succ

theorem aR0 (L : Nat → Lo) (j : Nat) : aR L (2 * j) = (L j).aE := by unfold aR; rw [if_pos (by omega), show 2 * j / 2 = j by omega]
theorem aR1 (L : Nat → Lo) (j : Nat) : aR L (2 * j + 1) = (L j).aF := by unfold aR; rw [if_neg (by omega), show (2 * j + 1) / 2 = j by omega]
theorem nR0 (P : Pr) (j : Nat) : nR P (2 * j) = (P.I j).nE := by unfold nR; rw [if_pos (by omega), show 2 * j / 2 = j by omega]
theorem nR1 (P : Pr) (j : Nat) : nR P (2 * j + 1) = (P.I j).nF := by unfold nR; rw [if_neg (by omega), show (2 * j + 1) / 2 = j by omega]
theorem kR0 (P : Pr) (k : Int) (j : Nat) : kR P k (2 * j) = kA P k j + 1 + 1 := by unfold kR; rw [if_pos (by omega), show 2 * j / 2 = j by omega]; omega
theorem kR1 (P : Pr) (k : Int) (j : Nat) : kR P k (2 * j + 1) = kA P k j + 1 + 1 + 3 * ((P.I j).nE : Int) := by unfold kR; rw [if_neg (by omega), show (2 * j + 1) / 2 = j by omega]; omega
theorem kA_succ (P : Pr) (k : Int) (j : Nat) : kA P k (j + 1) = kA P k j + 1 + 1 + 3 * ((P.I j).nE : Int) + 3 * ((P.I j).nF : Int) + 1 + 1 + 1 := by unfold kA; rw [show Syn.cnt P (j + 1) = Syn.cnt P j + ((P.I j).nE + (P.I j).nF) from rfl]; push_cast; omega
theorem rb_ge {P : Pr} {L : Nat → Lo} {X : Nat → Nat} (hp : Pl P L X) {t : Nat} (ht : t < 2 * P.n) {r : Nat} (h : rb (aR L t) (nR P t) = some r) : X 0 ≤ r := by
  unfold rb at h
  split at h
  · cases h
  · rcases hp.pl t ht with h0 | ⟨r1, e1, e2, e3⟩
    · contradiction
    · rw [e1] at h
      injection h with h
      have h' : r1 = r := h
      have := hp.up 0 t (by omega) (by omega)
      omega
/-- Blocks of other types stay. -/
def KT (w w' : World) : Prop := ∀ (b : Nat) (C : Array Value) (T : TypeId), T ≠ 45 → T ≠ 82 → w.heap[b]? = some (.cells C T) → w'.heap[b]? = some (.cells C T)
theorem KT.refl (w : World) : KT w w := fun _ _ _ _ _ h => h
theorem KT.trans {a b c : World} (h : KT a b) (k : KT b c) : KT a c := fun x C T h1 h2 h3 => k x C T h1 h2 (h x C T h1 h2 h3)
theorem KT.below {w w' : World} (hb : Below w.heap.size w w') : KT w w' := fun x C T _ _ h => blk_below h hb
theorem KT.setg {w : World} {g : Nat} {D : Array Value} (hg : w.heap[g]? = some (.cells D 45)) (q : Nat) (v : Value) : KT w (w.setCell ⟨g, q, none⟩ v) := fun x C T h1 h2 h => blk_set_other h (blk_ne h hg h1) _
theorem KT.grow {w w' : World} {a : Option Addr} {n lo hi : Nat} (hr : RowAt w a n lo hi) (hg : w.grownBy w' (rb a n)) : KT w w' := fun x C T h1 h2 h => by
  rw [hg.block x (blk_lt h) (fun e => ?_)]
  · exact h
  · unfold rb at e
    split at e
    · cases e
    · rcases hr with hr | ⟨r, D, rfl, _, _, h4, _⟩
      · contradiction
      · injection e with e
        exact blk_ne h h4 h2 e
set_option maxHeartbeats 6400000 in
set_option maxRecDepth 100000 in
theorem markItemSE (P : Pr) (L : Nat → Lo) (k : Int) (X : Nat → Nat) (g cap B : Nat) (w : World) (hW : MW P L k w g 0) (hR : RW P L k X w 0) (hp : Pl P L X) (hBg : B ≤ g) (hBX : B ≤ X 0) (hBw : B ≤ w.heap.size) (hn : P.n ≤ 1000) (hc : Syn.cnt P P.n ≤ 1000000) (h0 : 0 ≤ k) (h1 : k ≤ 1000) :
    Calls Tryd.prog 35 #[.slice (some ⟨g, 0, none⟩) P.n cap, .int .i64 k] w fun e w' => e = .returned (.int .i64 (kA P k P.n)) ∧ MW P L k w' g (P.n * 7) ∧ RW P L k X w' (2 * P.n) ∧ Below B w w' ∧ KT w w' := by
  have HP := Hid.mk hp
  have HC : Hid (∀ j, j ≤ P.n → Syn.cnt P j ≤ 1000000) := fun j hj => Nat.le_trans (Syn.cnt_mono P hj) hc
  have HW := Hid.mk hW
  have HR := Hid.mk hR
  obtain ⟨n, hN⟩ : ∃ n, n = P.n := ⟨_, rfl⟩
  have HN := Hid.mk hN
  rw [← hN] at hn ⊢
  clear hN hW hR hc hp
  go_enter Tryd.func35, Tryd.ntmps35
  go_wp2
  go_loopw [1, 5] (fun kk i wr => ∃ (j : Nat) (z : Int), j ≤ n ∧ i = .int .i64 j ∧ kk = .int .i64 z ∧ 0 ≤ z ∧ z ≤ 3100000 ∧ Hid (z = kA P k j) ∧ Hid (MW P L k wr g (j * 7)) ∧ Hid (RW P L k X wr (2 * j)) ∧ Hid (Below B w wr) ∧ Hid (KT w wr)) (fun _ i _ => n - (intOf i).toNat)
  case atStart => exact ⟨0, k, Nat.zero_le _, rfl, rfl, h0, by omega, by unfold Hid kA; simp [Syn.cnt], HW, HR, Below.refl _ _, KT.refl _⟩
  case round =>
    obtain ⟨j, z, hj, rfl, rfl, z0, z1, hz, hm, hw, hb, kt⟩ := hrel
    by_cases hlt : j < n
    · have hjP : Hid (j < P.n) := by unfold Hid; rw [← HN.out]; exact hlt
      have e7 : j * 7 + 7 ≤ P.n * 7 := by have := Nat.mul_le_mul_right 7 (show j + 1 ≤ P.n from hjP.out); rw [Nat.succ_mul] at this; exact this
      have hnext : Hid (kA P k (j + 1) ≤ 3100000) := by have := HC.out (j + 1) hjP.out; have := HN.out; unfold Hid kA; omega
      obtain ⟨aE, haE⟩ : ∃ a, a = (L j).aE := ⟨_, rfl⟩
      obtain ⟨aF, haF⟩ : ∃ a, a = (L j).aF := ⟨_, rfl⟩
      obtain ⟨cE, hcE⟩ : ∃ a, a = (L j).cE := ⟨_, rfl⟩
      obtain ⟨cF, hcF⟩ : ∃ a, a = (L j).cF := ⟨_, rfl⟩
      obtain ⟨nE, hnE⟩ : ∃ a, a = (P.I j).nE := ⟨_, rfl⟩
      obtain ⟨nF, hnF⟩ : ∃ a, a = (P.I j).nF := ⟨_, rfl⟩
      have F2 : Hid (fI P L k (j * 7 + 2) = .slice aE nE cE) := by unfold Hid; rw [fI2, haE, hnE, hcE]
      have F3 : Hid (fI P L k (j * 7 + 3) = .slice aF nF cF) := by unfold Hid; rw [fI3, haF, hnF, hcF]
      have RE : Hid (aR L (2 * j) = aE ∧ nR P (2 * j) = nE ∧ kR P k (2 * j) = z + 1 + 1) := ⟨by rw [aR0, haE], by rw [nR0, hnE], by rw [kR0, hz.out]⟩
      have RF : Hid (aR L (2 * j + 1) = aF ∧ nR P (2 * j + 1) = nF ∧ kR P k (2 * j + 1) = z + 1 + 1 + 3 * (nE : Int)) := ⟨by rw [aR1, haF], by rw [nR1, hnF], by rw [kR1, hz.out, hnE]⟩
      have ZN : Hid (kA P k (j + 1) = z + 1 + 1 + 3 * (nE : Int) + 3 * (nF : Int) + 1 + 1 + 1) := by unfold Hid; rw [kA_succ, hz.out, hnE, hnF]
      have F4 : Hid (∀ q, q < 3 → fI P L k (j * 7 + 4 + q) = .int .i64 (z + 2 + 3 * (nE : Int) + 3 * (nF : Int) + q)) := fun q hq => by rw [fI4 j q hq, hz.out, hnE, hnF]
      have F0 : Hid (fI P L k (j * 7) = .int .i64 z) := by unfold Hid; rw [fI0, hz.out]
      have F1 : Hid (fI P L k (j * 7 + 1) = .string (mT (z + 1).toNat)) := by unfold Hid; rw [fI1, hz.out]
      have hsm : z + 1 + 1 + 3 * (nE : Int) + 3 * (nF : Int) + 1 + 1 + 1 ≤ 3100000 := by rw [← ZN.out]; exact hnext.out
      clear haE haF hcE hcF hnE hnF hnext
      obtain ⟨⟨v0, d0⟩, f0⟩ := hm.out.cell (j * 7) (by omega)
      go_wp2_with fail
      clear d0 f0
      obtain ⟨C0, hC0, -⟩ := id hm.out
      obtain ⟨Z, hZ⟩ : ∃ Z : World, Z = wr.setCell ⟨g, j * 7, none⟩ (.int .i64 z) := ⟨_, rfl⟩
      rw [← hZ]
      have MZ : Hid (MW P L k Z g (j * 7 + 1)) := by unfold Hid; rw [hZ]; exact hm.out.step (by omega) F0.out.symm
      have RZ : Hid (RW P L k X Z (2 * j)) := by unfold Hid; rw [hZ]; exact hw.out.setg hC0 _ _
      have BZ : Hid (Below B w Z) := by unfold Hid; rw [hZ]; exact hb.out.setCell (p := ⟨g, j * 7, none⟩) hBg _
      have KZ : Hid (KT w Z) := by unfold Hid; rw [hZ]; exact kt.out.trans (KT.setg hC0 _ _)
      clear hZ hm hw hb hC0 C0 kt
      refine (markTextI _ _ (by omega) (by omega)).mono ?_
      rintro e w1 ⟨rfl, hb1⟩
      have M1 := Hid.mk (MZ.out.below hb1)
      have R1 := Hid.mk (RZ.out.below hb1)
      have B1 := Hid.mk (BZ.out.trans (hb1.mono (Nat.le_trans hBw BZ.out.size)))
      have K1 := Hid.mk (KZ.out.trans (KT.below hb1))
      clear hb1 MZ RZ BZ KZ
      obtain ⟨⟨v1, d1⟩, f1⟩ := M1.out.cell (j * 7 + 1) (by omega)
      have d2 := M1.out.val (j * 7 + 2) (by omega) (Or.inr (by omega))
      rw [F2.out] at d2
      go_wp2_with fail
      clear d1 f1 d2
      obtain ⟨C0, hC0, -⟩ := id M1.out
      obtain ⟨Z, hZ⟩ : ∃ Z : World, Z = w1.setCell ⟨g, j * 7 + 1, none⟩ (.string (mT (z + 1).toNat)) := ⟨_, rfl⟩
      rw [← hZ]
      have MZ : Hid (MW P L k Z g (j * 7 + 2)) := by unfold Hid; rw [hZ]; exact M1.out.step (by omega) F1.out.symm
      have RZ : Hid (RW P L k X Z (2 * j)) := by unfold Hid; rw [hZ]; exact R1.out.setg hC0 _ _
      have BZ : Hid (Below B w Z) := by unfold Hid; rw [hZ]; exact B1.out.setCell (p := ⟨g, j * 7 + 1, none⟩) hBg _
      have KZ : Hid (KT w Z) := by unfold Hid; rw [hZ]; exact K1.out.trans (KT.setg hC0 _ _)
      clear hZ M1 R1 B1 hC0 C0 K1
      have hjj : Hid (2 * j + 1 < 2 * P.n) := by have := hjP.out; unfold Hid; omega
      have row : Hid (RowAt Z aE nE (X (2 * j)) (X (2 * j + 1))) := by have := RZ.out.rd (2 * j) (Nat.le_refl _) (by have := hjj.out; omega); rw [RE.out.1, RE.out.2.1] at this; exact this
      refine (markRow2 aE nE _ _ _ _ _ row.out (by omega) (by omega) (by omega)).mono ?_
      rintro e w2 ⟨rfl, hg2, hk2⟩
      have M2 := Hid.mk (MZ.out.grow row.out hg2)
      have K2 := Hid.mk (KZ.out.trans (KT.grow row.out hg2))
      rw [← RE.out.1, ← RE.out.2.1] at hg2
      rw [← RE.out.1, ← RE.out.2.1, ← RE.out.2.2] at hk2
      have R2 := Hid.mk (RZ.out.grow HP.out (by have := hjj.out; omega) hg2 hk2)
      have B2 := Hid.mk (BZ.out.grown hg2 (Nat.le_trans hBw BZ.out.size) (fun r hr => Nat.le_trans hBX (rb_ge HP.out (by have := hjj.out; omega) hr)))
      clear hg2 hk2 MZ RZ BZ row KZ
      have d3 := M2.out.val (j * 7 + 3) (by omega) (Or.inr (by omega))
      rw [F3.out] at d3
      go_wp2_with fail
      clear d3
      have row : Hid (RowAt w2 aF nF (X (2 * j + 1)) (X (2 * j + 1 + 1))) := by have := R2.out.rd (2 * j + 1) (Nat.le_refl _) hjj.out; rw [RF.out.1, RF.out.2.1] at this; exact this
      refine (markRow2 aF nF _ _ _ _ _ row.out (by omega) (by omega) (by omega)).mono ?_
      rintro e w3 ⟨rfl, hg3, hk3⟩
      have K3 := Hid.mk (K2.out.trans (KT.grow row.out hg3))
      have M3 := Hid.mk ((M2.out.grow row.out hg3).skip (by omega))
      rw [← RF.out.1, ← RF.out.2.1] at hg3
      rw [← RF.out.1, ← RF.out.2.1, ← RF.out.2.2] at hk3
      have R3 := Hid.mk (R2.out.grow HP.out hjj.out hg3 hk3)
      have B3 := Hid.mk (B2.out.grown hg3 (Nat.le_trans hBw B2.out.size) (fun r hr => Nat.le_trans hBX (rb_ge HP.out hjj.out hr)))
      clear hg3 hk3 M2 R2 B2 row K2
      obtain ⟨⟨v4, d4⟩, f4⟩ := M3.out.cell (j * 7 + 4) (by omega)
      obtain ⟨⟨v5, d5⟩, f5⟩ := M3.out.cell (j * 7 + 5) (by omega)
      obtain ⟨⟨v6, d6⟩, f6⟩ := M3.out.cell (j * 7 + 6) (by omega)
      go_wp2
      obtain ⟨C0, hC0, -⟩ := id M3.out
      refine ⟨⟨j + 1, _, by omega, by go_num, rfl, by omega, hsm, ZN.out.symm, ?_, ?_, ?_, ?_⟩, by simp [intOf]; omega⟩
      · unfold Hid
        rw [Nat.succ_mul]
        exact ((M3.out.step (by omega) (by rw [F4.out 0 (by omega)]; congr 1; omega)).step (by omega) (by rw [F4.out 1 (by omega)]; congr 1; omega)).step (by omega) (by rw [F4.out 2 (by omega)]; congr 1; omega)
      · unfold Hid
        rw [show 2 * (j + 1) = 2 * j + 1 + 1 by omega]
        exact ((R3.out.setg hC0 _ _).setg (blk_set hC0 _ _) _ _).setg (blk_set (blk_set hC0 _ _) _ _) _ _
      · exact ((B3.out.setCell (p := ⟨g, j * 7 + 4, none⟩) hBg _).setCell (p := ⟨g, j * 7 + 5, none⟩) hBg _).setCell (p := ⟨g, j * 7 + 6, none⟩) hBg _
      · exact ((K3.out.trans (KT.setg hC0 _ _)).trans (KT.setg (blk_set hC0 _ _) _ _)).trans (KT.setg (blk_set (blk_set hC0 _ _) _ _) _ _)
    · have hkn : j = n := by omega
      subst hkn
      go_wp2
      go_ret
      exact ⟨by rw [← hz.out]; rfl, hm.out, hw.out, hb.out, kt.out⟩
end Go.Proofs.YtfoigigbggickaaDoor.Par
namespace Go.Proofs.YtfoigigbggickaaDoor.Par
open Go Go.RowKit Go.Proofs.YtfoigigbggickaaDoor.Mem Go.Proofs.YtfoigigbggickaaDoor.Syn Go.Proofs.YtfoigigbggickaaDoor.Parse Go.Proofs.YtfoigigbggickaaDoor.MarksB
set_option linter.unusedVariables false
set_option linter.unusedSimpArgs false
attribute [local go_sem ↓] Go.wp_at_zero Go.wp_at_succ

set_option maxHeartbeats 6400000 in
set_option maxRecDepth 100000 in
theorem heldItemSE (P : Pr) (L : Nat → Lo) (k : Int) (X : Nat → Nat) (g cap : Nat) (w : World) (hW : MW P L k w g (P.n * 7)) (hR : RW P L k X w (2 * P.n)) (hn : P.n ≤ 1000) (hc : Syn.cnt P P.n ≤ 1000000) (h0 : 0 ≤ k) (h1 : k ≤ 1000) :
    Calls Tryd.prog 36 #[.slice (some ⟨g, 0, none⟩) P.n cap, .int .i64 k] w fun e w' => e = .returned (.int .i64 (kA P k P.n)) ∧ Below w.heap.size w w' := by
  have HC : Hid (∀ j, j ≤ P.n → Syn.cnt P j ≤ 1000000) := fun j hj => Nat.le_trans (Syn.cnt_mono P hj) hc
  have HW := Hid.mk hW
  have HR := Hid.mk hR
  obtain ⟨n, hN⟩ : ∃ n, n = P.n := ⟨_, rfl⟩
  have HN := Hid.mk hN
  rw [← hN] at hn ⊢
  clear hN hW hR hc
  go_enter Tryd.func36, Tryd.ntmps36
  go_wp2
  go_loopw [1, 5] (fun kk i wr => ∃ (j : Nat) (z : Int), j ≤ n ∧ i = .int .i64 j ∧ kk = .int .i64 z ∧ 0 ≤ z ∧ z ≤ 3100000 ∧ Hid (z = kA P k j) ∧ Hid (Below w.heap.size w wr)) (fun _ i _ => n - (intOf i).toNat)
  case atStart => exact ⟨0, k, Nat.zero_le _, rfl, rfl, h0, by omega, by unfold Hid kA; simp [Syn.cnt], Below.refl _ _⟩
  case round =>
    obtain ⟨j, z, hj, rfl, rfl, z0, z1, hz, hb⟩ := hrel
    by_cases hlt : j < n
    · have hjP : Hid (j < P.n) := by unfold Hid; rw [← HN.out]; exact hlt
      have e7 : j * 7 + 7 ≤ P.n * 7 := by have := Nat.mul_le_mul_right 7 (show j + 1 ≤ P.n from hjP.out); rw [Nat.succ_mul] at this; exact this
      have hnext : Hid (kA P k (j + 1) ≤ 3100000) := by have := HC.out (j + 1) hjP.out; have := HN.out; unfold Hid kA; omega
      obtain ⟨aE, haE⟩ : ∃ a, a = (L j).aE := ⟨_, rfl⟩
      obtain ⟨aF, haF⟩ : ∃ a, a = (L j).aF := ⟨_, rfl⟩
      obtain ⟨cE, hcE⟩ : ∃ a, a = (L j).cE := ⟨_, rfl⟩
      obtain ⟨cF, hcF⟩ : ∃ a, a = (L j).cF := ⟨_, rfl⟩
      obtain ⟨nE, hnE⟩ : ∃ a, a = (P.I j).nE := ⟨_, rfl⟩
      obtain ⟨nF, hnF⟩ : ∃ a, a = (P.I j).nF := ⟨_, rfl⟩
      have F2 : Hid (fI P L k (j * 7 + 2) = .slice aE nE cE) := by unfold Hid; rw [fI2, haE, hnE, hcE]
      have F3 : Hid (fI P L k (j * 7 + 3) = .slice aF nF cF) := by unfold Hid; rw [fI3, haF, hnF, hcF]
      have hjj : 2 * j + 1 < 2 * P.n := by have := hjP.out; omega
      have RE : Hid (RowMk w aE nE (z + 1 + 1)) := by have := HR.out.md (2 * j) (by omega) (by omega); rw [aR0, nR0, kR0, ← haE, ← hnE, ← hz.out] at this; exact this
      have RF : Hid (RowMk w aF nF (z + 1 + 1 + 3 * (nE : Int))) := by have := HR.out.md (2 * j + 1) (by omega) (by omega); rw [aR1, nR1, kR1, ← haF, ← hnF, ← hnE, ← hz.out] at this; exact this
      have ZN : Hid (kA P k (j + 1) = z + 1 + 1 + 3 * (nE : Int) + 3 * (nF : Int) + 1 + 1 + 1) := by unfold Hid; rw [kA_succ, hz.out, hnE, hnF]
      have F4 : Hid (fI P L k (j * 7 + 4) = .int .i64 (z + 1 + 1 + 3 * (nE : Int) + 3 * (nF : Int))) := by unfold Hid; rw [fI4 j 0 (by omega), hz.out, hnE, hnF]; congr 1; omega
      have F5 : Hid (fI P L k (j * 7 + 5) = .int .i64 (z + 1 + 1 + 3 * (nE : Int) + 3 * (nF : Int) + 1)) := by unfold Hid; rw [fI4 j 1 (by omega), hz.out, hnE, hnF]; congr 1; omega
      have F6 : Hid (fI P L k (j * 7 + 6) = .int .i64 (z + 1 + 1 + 3 * (nE : Int) + 3 * (nF : Int) + 1 + 1)) := by unfold Hid; rw [fI4 j 2 (by omega), hz.out, hnE, hnF]; congr 1; omega
      have F0 : Hid (fI P L k (j * 7) = .int .i64 z) := by unfold Hid; rw [fI0, hz.out]
      obtain ⟨S, hS⟩ : ∃ S, S = mT (z + 1).toNat := ⟨_, rfl⟩
      have F1 : Hid (fI P L k (j * 7 + 1) = .string S) := by unfold Hid; rw [fI1, hS, hz.out]
      have CT : Hid (∀ W, Calls Tryd.prog 58 #[.int .i64 (z + 1)] W fun e w' => e = .returned (.string S) ∧ Below W.heap.size W w') := fun W => by rw [hS]; exact markTextI _ W (by omega) (by omega)
      have hsm : z + 1 + 1 + 3 * (nE : Int) + 3 * (nF : Int) + 1 + 1 + 1 ≤ 3100000 := by rw [← ZN.out]; exact hnext.out
      clear haE haF hcE hcF hnE hnF hnext hS
      have M0 := Hid.mk (HW.out.below hb.out)
      have d0 := M0.out.val (j * 7) (by omega) (Or.inl (by omega))
      have d1 := M0.out.val (j * 7 + 1) (by omega) (Or.inl (by omega))
      rw [F0.out] at d0
      rw [F1.out] at d1
      go_wp2_with fail
      go_region_held3 (fun w' => w'.cell? ⟨g, j * 7 + 1, none⟩ = some (.string S)) (first | go_keep | exact cell_keep hb1 (by first | assumption | (simp [*]; done))) ((go_at_call 58; refine (CT.out _).mono ?_; rintro e w1 ⟨rfl, hb1⟩))
      have B1 : Hid (Below w.heap.size w w1) := below_then hb.out.drew hb1
      clear hb1 hb d0 M0
      have M1 := Hid.mk (HW.out.below B1.out)
      have d2 := M1.out.val (j * 7 + 2) (by omega) (Or.inr (by omega))
      rw [F2.out] at d2
      go_wp2_with fail
      clear d2
      refine (heldRow aE nE _ _ _ (rowMk_blk RE.out fun r C _ hc _ => blk_below hc B1.out) (by omega) (by omega) (by omega)).mono ?_
      rintro e w2 ⟨rfl, hb2⟩
      have B2 := Hid.mk (below_then B1.out hb2)
      clear hb2 M1 B1
      have M2 := Hid.mk (HW.out.below B2.out)
      have d3 := M2.out.val (j * 7 + 3) (by omega) (Or.inr (by omega))
      rw [F3.out] at d3
      have t1 : ¬ z + 1 + 1 + 3 * (nE : Int) < 0 := by omega
      have t2 : decide (z + 1 + 1 + 3 * (nE : Int) < 0) = false := by simp; omega
      go_wp2_with fail
      clear d3 t1 t2
      refine (heldRow aF nF _ _ _ (rowMk_blk RF.out fun r C _ hc _ => blk_below hc B2.out) (by omega) (by omega) (by omega)).mono ?_
      rintro e w3 ⟨rfl, hb3⟩
      have B3 := Hid.mk (below_then B2.out hb3)
      clear hb3 M2 B2
      have M3 := Hid.mk (HW.out.below B3.out)
      have d4 := M3.out.val (j * 7 + 4) (by omega) (Or.inl (by omega))
      have d5 := M3.out.val (j * 7 + 5) (by omega) (Or.inl (by omega))
      have d6 := M3.out.val (j * 7 + 6) (by omega) (Or.inl (by omega))
      rw [F4.out] at d4
      rw [F5.out] at d5
      rw [F6.out] at d6
      have t1 : ¬ z + 1 + 1 + 3 * (nE : Int) + 3 * (nF : Int) < 0 := by omega
      have t2 : decide (z + 1 + 1 + 3 * (nE : Int) + 3 * (nF : Int) < 0) = false := by simp; omega
      go_wp2
      exact ⟨⟨j + 1, _, by omega, by go_num, rfl, by omega, hsm, ZN.out.symm, B3⟩, by simp [intOf]; omega⟩
    · have hkn : j = n := by omega
      subst hkn
      go_wp2
      go_ret
      exact ⟨by rw [← hz.out]; rfl, hb.out⟩
end Go.Proofs.YtfoigigbggickaaDoor.Par
namespace Go.Proofs.YtfoigigbggickaaDoor.Par
open Go Go.RowKit Go.Proofs.YtfoigigbggickaaDoor.Mem Go.Proofs.YtfoigigbggickaaDoor.Syn Go.Proofs.YtfoigigbggickaaDoor.Parse Go.Proofs.YtfoigigbggickaaDoor.MarksB
set_option linter.unusedVariables false
set_option linter.unusedSimpArgs false
attribute [local go_sem ↓] Go.wp_at_zero Go.wp_at_succ

set_option maxHeartbeats 3200000 in
set_option maxRecDepth 100000 in
theorem markItemNone (a : Option Addr) (c : Nat) (k : Int) (w : World) : Calls Tryd.prog 35 #[.slice a 0 c, .int .i64 k] w fun e w' => e = .returned (.int .i64 k) ∧ w' = w := by
  go_enter Tryd.func35, Tryd.ntmps35
  go_wp2
  go_loopw [1, 5] (fun kk i wr => i = .int .i64 0 ∧ kk = .int .i64 k ∧ wr = w) (fun _ i _ => 0)
  case atStart => exact ⟨rfl, rfl, rfl⟩
  case round =>
    obtain ⟨rfl, rfl, rfl⟩ := hrel
    go_wp2
    go_ret
    exact ⟨rfl, rfl⟩
set_option maxHeartbeats 3200000 in
set_option maxRecDepth 100000 in
theorem heldItemNone (a : Option Addr) (c : Nat) (k : Int) (w : World) : Calls Tryd.prog 36 #[.slice a 0 c, .int .i64 k] w fun e w' => e = .returned (.int .i64 k) ∧ w' = w := by
  go_enter Tryd.func36, Tryd.ntmps36
  go_wp2
  go_loopw [1, 5] (fun kk i wr => i = .int .i64 0 ∧ kk = .int .i64 k ∧ wr = w) (fun _ i _ => 0)
  case atStart => exact ⟨rfl, rfl, rfl⟩
  case round =>
    obtain ⟨rfl, rfl, rfl⟩ := hrel
    go_wp2
    go_ret
    exact ⟨rfl, rfl⟩
/-- An answer's rows, ready to be marked. -/
theorem its_mark {B s e : Nat} {w : World} {iv : Value} {cs : List Value} {L : List Im} (k : Int) (h : w.ownsRow B 45 7 iv L.length cs) (hi : Its w s e cs L) : L.length = 0 ∨ ∃ g c lo X, iv = .slice (some ⟨g, 0, none⟩) L.length c ∧ B ≤ g ∧ MW (prOf L) lo k w g 0 ∧ RW (prOf L) lo k X w 0 ∧ Pl (prOf L) lo X ∧ X 0 = s := by
  obtain ⟨lo, x, y, h0, hE, h1, h2, h3⟩ := hi.lay
  rcases h.2 with ⟨e1, e2⟩ | ⟨g, cap, cur, e1, e2, e3, e4, e5, e6, e7⟩
  · exact Or.inl e2
  right
  have hX0 : ∀ i, (if 2 * i % 2 = 0 then x (2 * i / 2) else y (2 * i / 2)) = x i := fun i => by rw [if_pos (by omega), show 2 * i / 2 = i by omega]
  have hX1 : ∀ i, (if (2 * i + 1) % 2 = 0 then x ((2 * i + 1) / 2) else y ((2 * i + 1) / 2)) = y i := fun i => by rw [if_neg (by omega), show (2 * i + 1) / 2 = i by omega]
  have row : ∀ t, t < 2 * L.length → RowAt w (aR lo t) (nR (prOf L) t) (if t % 2 = 0 then x (t / 2) else y (t / 2)) (if (t + 1) % 2 = 0 then x ((t + 1) / 2) else y ((t + 1) / 2)) := fun t ht => by
    rcases Nat.mod_two_eq_zero_or_one t with hm | hm
    · obtain ⟨i, rfl⟩ : ∃ i, t = 2 * i := ⟨t / 2, by omega⟩
      rw [hX0, hX1, aR0, nR0]; exact (h3 i (by omega)).1
    · obtain ⟨i, rfl⟩ : ∃ i, t = 2 * i + 1 := ⟨t / 2, by omega⟩
      rw [hX1, show 2 * i + 1 + 1 = 2 * (i + 1) by omega, hX0, aR1, nR1]; exact (h3 i (by omega)).2
  refine ⟨g, cap, lo, fun t => if t % 2 = 0 then x (t / 2) else y (t / 2), e1, e2, ⟨cur, e3, ?_, fun p hp => by omega, ?_⟩, ⟨fun t ht => by omega, fun t _ ht => row t ht⟩, ⟨?_, ?_⟩, h0⟩
  · rw [e6]; exact Nat.mul_le_mul_right 7 e4
  · intro p hp hq
    have hp : p < L.length * 7 := hp
    have hc : cur[p]? = cs[p]? := by rw [← e7, List.getElem?_take, if_pos hp, Array.getElem?_toList]
    rw [hc, show p = (p / 7) * 7 + p % 7 by omega, h2 (p / 7) (by omega) (p % 7) (by omega)]
    rcases hq with hq | hq
    · rw [hq, fI2]; rfl
    · rw [hq, fI3]; rfl
  · intro t ht
    rcases row t ht with hr | ⟨r, C, h4, h5, h6, -, -⟩
    · exact Or.inl hr
    · exact Or.inr ⟨r, h4, h5, h6⟩
  · have step : ∀ t, t < 2 * L.length → (if t % 2 = 0 then x (t / 2) else y (t / 2)) ≤ (if (t + 1) % 2 = 0 then x ((t + 1) / 2) else y ((t + 1) / 2)) := fun t ht => by
      rcases Nat.mod_two_eq_zero_or_one t with hm | hm
      · obtain ⟨i, rfl⟩ : ∃ i, t = 2 * i := ⟨t / 2, by omega⟩
        rw [hX0, hX1]; exact (h1 i (by omega)).1
      · obtain ⟨i, rfl⟩ : ∃ i, t = 2 * i + 1 := ⟨t / 2, by omega⟩
        rw [hX1, show 2 * i + 1 + 1 = 2 * (i + 1) by omega, hX0]; exact (h1 i (by omega)).2
    intro t u htu
    induction u with
    | zero => intro _; rw [show t = 0 by omega]; exact Nat.le_refl _
    | succ u ih =>
      intro hu
      have hu : u + 1 ≤ 2 * L.length := hu
      by_cases e : t = u + 1
      · rw [e]; exact Nat.le_refl _
      · exact Nat.le_trans (ih (by omega) (by show u ≤ 2 * L.length; omega)) (step u (by omega))
/-- The rows bear their marks. -/
def Mkd (w : World) (iv : Value) (L : List Im) : Prop := (L.length = 0 ∧ ∃ a c, iv = .slice a 0 c) ∨ ∃ g c lo X, iv = .slice (some ⟨g, 0, none⟩) L.length c ∧ MW (prOf L) lo 1 w g (L.length * 7) ∧ RW (prOf L) lo 1 X w (2 * L.length)
theorem Mkd.below {w w' : World} {iv : Value} {L : List Im} (h : Mkd w iv L) (hb : Below w.heap.size w w') : Mkd w' iv L := by
  rcases h with h | ⟨g, c, lo, X, h1, h2, h3⟩
  · exact Or.inl h
  · exact Or.inr ⟨g, c, lo, X, h1, h2.below hb, h3.below hb⟩
def kE (L : List Im) : Int := kA (prOf L) 1 L.length
theorem markItemsE {B s e : Nat} {w : World} {iv : Value} {cs : List Value} {L : List Im} (h : w.ownsRow B 45 7 iv L.length cs) (hi : Its w s e cs L) (hs : B ≤ s) (hBw : B ≤ w.heap.size) (hn : L.length ≤ 1000) (hc : Syn.cnt (prOf L) L.length ≤ 1000000) :
    Calls Tryd.prog 35 #[iv, .int .i64 1] w fun r w' => r = .returned (.int .i64 (kE L)) ∧ Mkd w' iv L ∧ Below B w w' ∧ KT w w' := by
  rcases its_mark 1 h hi with hz | ⟨g, c, lo, X, rfl, h1, h2, h3, h4, h5⟩
  · obtain ⟨a, c, e1, -⟩ := row_shape h
    rw [hz] at e1
    subst e1
    refine (markItemNone a c 1 w).mono ?_
    rintro r w' ⟨rfl, rfl⟩
    have hk : kE L = 1 := by unfold kE kA; rw [hz]; rfl
    exact ⟨by rw [hk], Or.inl ⟨hz, _, _, rfl⟩, Below.refl _ _, KT.refl _⟩
  · refine (markItemSE (prOf L) lo 1 X g c B w h2 h3 h4 h1 (by rw [h5]; exact hs) hBw hn hc (by omega) (by omega)).mono ?_
    rintro r w' ⟨rfl, m1, m2, m3, m4⟩
    exact ⟨rfl, Or.inr ⟨g, c, lo, X, rfl, m1, m2⟩, m3, m4⟩
theorem heldItemsE {w : World} {iv : Value} {L : List Im} (h : Mkd w iv L) (hn : L.length ≤ 1000) (hc : Syn.cnt (prOf L) L.length ≤ 1000000) :
    Calls Tryd.prog 36 #[iv, .int .i64 1] w fun r w' => r = .returned (.int .i64 (kE L)) ∧ Below w.heap.size w w' := by
  rcases h with ⟨hz, a, c, rfl⟩ | ⟨g, c, lo, X, rfl, h2, h3⟩
  · refine (heldItemNone a c 1 w).mono ?_
    rintro r w' ⟨rfl, rfl⟩
    have hk : kE L = 1 := by unfold kE kA; rw [hz]; rfl
    exact ⟨by rw [hk], Below.refl _ _⟩
  · exact heldItemSE (prOf L) lo 1 X g c w h2 h3 hn hc (by omega) (by omega)
end Go.Proofs.YtfoigigbggickaaDoor.Par
namespace Go.Proofs.YtfoigigbggickaaDoor.Par
open Go Go.RowKit Go.Proofs.YtfoigigbggickaaDoor.Mem Go.Proofs.YtfoigigbggickaaDoor.Syn Go.Proofs.YtfoigigbggickaaDoor.Parse Go.Proofs.YtfoigigbggickaaDoor.MarksB
set_option linter.unusedVariables false
set_option linter.unusedSimpArgs false
attribute [local go_sem ↓] Go.wp_at_zero Go.wp_at_succ

variable {B s e : Nat} {w : World} {cs : List Value} {L : List Im}
theorem itsKeep {w' : World} (hi : Its w s e cs L) (hb : Below w.heap.size w w') : Its w' s e cs L := hi.keep fun g C fr _ hc => blk_below hc hb
theorem kE_ge (L : List Im) : 1 ≤ kE L := by unfold kE kA; omega
set_option maxHeartbeats 1600000 in
set_option maxRecDepth 100000 in
theorem markProgE (ia : Option Addr) (n ic : Nat) (hN : n = L.length) (h : w.ownsRow B 45 7 (.slice ia n ic) L.length cs) (hi : Its w s e cs L) (hs : B ≤ s) (hBw : B ≤ w.heap.size) (hn : L.length ≤ 1000) (hc : Syn.cnt (prOf L) L.length ≤ 1000000) :
    Calls Tryd.prog 19 #[.agg #[.slice ia n ic], .int .i64 1] w fun r w' => r = .returned (.int .i64 (kE L)) ∧ Mkd w' (.slice ia n ic) L ∧ Below B w w' ∧ KT w w' := by
  obtain ⟨W, hW⟩ : ∃ W : World, W = w.alloc (.cells #[.slice ia n ic] 25) := ⟨_, rfl⟩
  have hb0 : Below w.heap.size w W := by rw [hW]; exact below_alloc' (Below.refl _ _) _
  have CM := Hid.mk (markItemsE (B := B) (row_below h hb0) (itsKeep hi hb0) hs (Nat.le_trans hBw hb0.size) hn hc)
  have B0 := Hid.mk (hb0.mono hBw)
  have K0 := Hid.mk (KT.below hb0)
  obtain ⟨z, hz⟩ : ∃ z, z = kE L := ⟨_, rfl⟩
  rw [← hz] at CM ⊢
  clear h hi hs hn hc hb0 hz hN hBw
  go_enter Tryd.func19, Tryd.ntmps19
  go_wp2_with fail
  rw [← hW]
  clear hW
  refine CM.out.mono ?_
  rintro r w1 ⟨rfl, hm, hb1, hk1⟩
  have K1 := Hid.mk (K0.out.trans hk1)
  have HM := Hid.mk hm
  have B1 := Hid.mk (B0.out.trans hb1)
  clear hm hb1 hk1
  go_wp2
  go_ret
  exact ⟨rfl, HM.out, B1.out, K1.out⟩
set_option maxHeartbeats 1600000 in
set_option maxRecDepth 100000 in
theorem markProgResE (x y : Int) (ia : Option Addr) (n ic : Nat) (hN : n = L.length) (h : w.ownsRow B 45 7 (.slice ia n ic) L.length cs) (hi : Its w s e cs L) (hs : B ≤ s) (hBw : B ≤ w.heap.size) (hn : L.length ≤ 1000) (hc : Syn.cnt (prOf L) L.length ≤ 1000000) :
    Calls Tryd.prog 10 #[.agg #[.int .i64 x, .int .i64 y, .slice ia n ic], .int .i64 1] w fun r w' => r = .returned (.int .i64 (kE L)) ∧ Mkd w' (.slice ia n ic) L ∧ Below B w w' ∧ KT w w' := by
  obtain ⟨W, hW⟩ : ∃ W : World, W = w.alloc (.cells #[.int .i64 x, .int .i64 y, .slice ia n ic] 27) := ⟨_, rfl⟩
  have hb0 : Below w.heap.size w W := by rw [hW]; exact below_alloc' (Below.refl _ _) _
  have CM := Hid.mk (markProgE (B := B) ia n ic hN (row_below h hb0) (itsKeep hi hb0) hs (Nat.le_trans hBw hb0.size) hn hc)
  have B0 := Hid.mk (hb0.mono hBw)
  have K0 := Hid.mk (KT.below hb0)
  obtain ⟨z, hz⟩ : ∃ z, z = kE L := ⟨_, rfl⟩
  rw [← hz] at CM ⊢
  clear h hi hs hn hc hb0 hz hN hBw
  go_enter Tryd.func10, Tryd.ntmps10
  go_wp2_with fail
  rw [← hW]
  clear hW
  refine CM.out.mono ?_
  rintro r w1 ⟨rfl, hm, hb1, hk1⟩
  have K1 := Hid.mk (K0.out.trans hk1)
  have HM := Hid.mk hm
  have B1 := Hid.mk (B0.out.trans hb1)
  clear hm hb1 hk1
  go_wp2
  go_ret
  exact ⟨rfl, HM.out, B1.out, K1.out⟩
set_option maxHeartbeats 1600000 in
set_option maxRecDepth 100000 in
theorem heldProgE (ia : Option Addr) (n ic : Nat) (h : Mkd w (.slice ia n ic) L) (hn : L.length ≤ 1000) (hc : Syn.cnt (prOf L) L.length ≤ 1000000) :
    Calls Tryd.prog 20 #[.agg #[.slice ia n ic], .int .i64 1] w fun r w' => r = .returned (.int .i64 (kE L)) ∧ Below w.heap.size w w' := by
  obtain ⟨W, hW⟩ : ∃ W : World, W = w.alloc (.cells #[.slice ia n ic] 25) := ⟨_, rfl⟩
  have hb0 : Below w.heap.size w W := by rw [hW]; exact below_alloc' (Below.refl _ _) _
  have CM := Hid.mk (heldItemsE (h.below hb0) hn hc)
  have B0 := Hid.mk hb0
  have hge := kE_ge L
  obtain ⟨z, hz⟩ : ∃ z, z = kE L := ⟨_, rfl⟩
  rw [← hz] at CM hge ⊢
  have t1 : ¬ z < 0 := by omega
  have t2 : decide (z < 0) = false := by simp; omega
  clear h hn hc hb0 hz hge
  go_enter Tryd.func20, Tryd.ntmps20
  go_wp2_with fail
  rw [← hW]
  clear hW
  refine CM.out.mono ?_
  rintro r w1 ⟨rfl, hb1⟩
  have B1 := Hid.mk (below_then B0.out hb1)
  clear hb1
  go_wp2
  go_ret
  exact ⟨rfl, B1.out⟩
set_option maxHeartbeats 1600000 in
set_option maxRecDepth 100000 in
theorem heldProgResE (x y : Int) (ia : Option Addr) (n ic : Nat) (h : Mkd w (.slice ia n ic) L) (hn : L.length ≤ 1000) (hc : Syn.cnt (prOf L) L.length ≤ 1000000) :
    Calls Tryd.prog 11 #[.agg #[.int .i64 x, .int .i64 y, .slice ia n ic], .int .i64 1] w fun r w' => r = .returned (.int .i64 (kE L)) ∧ Below w.heap.size w w' := by
  obtain ⟨W, hW⟩ : ∃ W : World, W = w.alloc (.cells #[.int .i64 x, .int .i64 y, .slice ia n ic] 27) := ⟨_, rfl⟩
  have hb0 : Below w.heap.size w W := by rw [hW]; exact below_alloc' (Below.refl _ _) _
  have CM := Hid.mk (heldProgE ia n ic (h.below hb0) hn hc)
  have B0 := Hid.mk hb0
  have hge := kE_ge L
  obtain ⟨z, hz⟩ : ∃ z, z = kE L := ⟨_, rfl⟩
  rw [← hz] at CM hge ⊢
  have t1 : ¬ z < 0 := by omega
  have t2 : decide (z < 0) = false := by simp; omega
  clear h hn hc hb0 hz hge
  go_enter Tryd.func11, Tryd.ntmps11
  go_wp2_with fail
  rw [← hW]
  clear hW
  refine CM.out.mono ?_
  rintro r w1 ⟨rfl, hb1⟩
  have B1 := Hid.mk (below_then B0.out hb1)
  clear hb1
  go_wp2
  go_ret
  exact ⟨rfl, B1.out⟩
end Go.Proofs.YtfoigigbggickaaDoor.Par
namespace Go.Proofs.YtfoigigbggickaaDoor.Par
open Go Go.RowKit Go.Proofs.YtfoigigbggickaaDoor.Mem Go.Proofs.YtfoigigbggickaaDoor.Syn Go.Proofs.YtfoigigbggickaaDoor.Parse
set_option linter.unusedVariables false
set_option linter.unusedSimpArgs false

theorem le_cnt {T : Nat → Tk} {i o x : Nat} (h : cnt T i o = .ok x) (ho : o ≤ 2000) : x ≤ 2000 := by
  unfold cnt at h
  split at h
  · cases h
  · injection h with h; omega
/-- A reader counts to 2000 at most. -/
theorem le_all (T : Nat → Tk) : ∀ f,
    (∀ s i o d x, ex T f s i o d = .ok x → o ≤ 2000 → x.2.2 ≤ 2000) ∧
    (∀ s l i o d x, lp T f s l i o d = .ok x → o ≤ 2000 → x.2.2 ≤ 2000) ∧
    (∀ i o d x, un T f i o d = .ok x → o ≤ 2000 → x.2.2 ≤ 2000) ∧
    (∀ i o d x, pr T f i o d = .ok x → o ≤ 2000 → x.2.2 ≤ 2000) ∧
    (∀ m i o d x, og T f m i o d = .ok x → o ≤ 2000 → x.2.2 ≤ 2000) ∧
    (∀ m L i o d x, ol T f m L i o d = .ok x → o ≤ 2000 → x.2.2 ≤ 2000)
  | 0 => by
    refine ⟨?_, ?_, ?_, ?_, ?_, ?_⟩
    · intro s i o d x h; rw [ex] at h; cases h
    · intro s l i o d x h; rw [lp] at h; cases h
    · intro i o d x h; rw [un] at h; cases h
    · intro i o d x h; rw [pr] at h; cases h
    · intro m i o d x h; rw [og] at h; cases h
    · intro m L i o d x h; rw [ol] at h; cases h
  | f + 1 => by
    obtain ⟨hE, hL, hU, hP, hG, hO⟩ := le_all T f
    refine ⟨?_, ?_, ?_, ?_, ?_, ?_⟩
    · intro s i o d x h ho
      rw [ex] at h
      split at h
      · exact hU i o d x h ho
      · obtain ⟨y, h1, h2⟩ := bnd_inv h
        exact hL _ _ _ _ _ _ h2 (hE _ _ _ _ _ h1 ho)
    · intro s l i o d x h ho
      rw [lp] at h
      split at h
      · obtain ⟨o1, h1, h⟩ := bnd_inv h
        obtain ⟨j, h2, h⟩ := bnd_inv h
        obtain ⟨y, h3, h⟩ := bnd_inv h
        have e3 := hE _ _ _ _ _ h3 (le_cnt h1 ho)
        split at h
        · injection h with h; rw [← h]; exact e3
        · exact hL _ _ _ _ _ _ h e3
      · injection h with h; rw [← h]; exact ho
    · intro i o d x h ho
      rw [un] at h
      split at h
      · obtain ⟨o1, h1, h⟩ := bnd_inv h
        obtain ⟨u, h2, h⟩ := bnd_inv h
        obtain ⟨j, h3, h⟩ := bnd_inv h
        obtain ⟨y, h4, h⟩ := bnd_inv h
        have e4 := hU _ _ _ _ h4 (le_cnt h1 ho)
        injection h with h; rw [← h]
        exact e4
      · exact hP i o d x h ho
    · intro i o d x h ho
      rw [pr] at h
      split at h
      · obtain ⟨y, h1, h⟩ := bnd_inv h
        injection h with h; rw [← h]; exact hG _ _ _ _ _ h1 ho
      split at h
      · obtain ⟨o1, h1, h⟩ := bnd_inv h
        obtain ⟨j, h2, h⟩ := bnd_inv h
        obtain ⟨y, h3, h⟩ := bnd_inv h
        injection h with h; rw [← h]; exact hG _ _ _ _ _ h3 (le_cnt h1 ho)
      split at h
      · obtain ⟨o1, h1, h⟩ := bnd_inv h
        obtain ⟨j, h2, h⟩ := bnd_inv h
        obtain ⟨y, h3, h⟩ := bnd_inv h
        injection h with h; rw [← h]; exact le_cnt h1 ho
      split at h
      · cases h
      · obtain ⟨o1, h1, h⟩ := bnd_inv h
        obtain ⟨j, h2, h⟩ := bnd_inv h
        injection h with h; rw [← h]; exact le_cnt h1 ho
    · intro m i o d x h ho
      rw [og] at h
      split at h
      · obtain ⟨u, h1, h⟩ := bnd_inv h
        obtain ⟨j, h2, h⟩ := bnd_inv h
        obtain ⟨y, h3, h⟩ := bnd_inv h
        obtain ⟨z, h4, h⟩ := bnd_inv h
        obtain ⟨j', h5, h⟩ := bnd_inv h
        have e4 := hO _ _ _ _ _ _ h4 (hE _ _ _ _ _ h3 ho)
        injection h with h; rw [← h]
        exact e4
      · cases h
    · intro m L i o d x h ho
      cases m with
      | zero => rw [ol] at h; injection h with h; rw [← h]; exact ho
      | succ m =>
        rw [ol] at h
        obtain ⟨j, h1, h⟩ := bnd_inv h
        obtain ⟨y, h2, h⟩ := bnd_inv h
        exact hO _ _ _ _ _ _ h (hE _ _ _ _ _ h2 ho)
theorem px_len {T : Nat → Tk} {F i o : Nat} {x : List Po × Nat × Nat} (h : pxP T F i o = .ok x) (ho : o ≤ 2000) : x.1.length + o = x.2.2 ∧ x.2.2 ≤ 2000 := by
  unfold pxP at h
  obtain ⟨y, h1, h⟩ := bnd_inv h
  injection h with h
  rw [← h]
  exact ⟨(pf_all T F).1 _ _ _ _ _ h1, (le_all T F).1 _ _ _ _ _ h1 ho⟩
def OkIm (im : Im) : Prop := im.E.length ≤ 2000 ∧ im.F.length ≤ 2000
theorem item_len {T : Nat → Tk} {F i o : Nat} {x : Im × Nat × Nat} (h : itemP T F i o = .ok x) (ho : o ≤ 2000) : OkIm x.1 ∧ x.2.2 ≤ 2000 := by
  unfold itemP at h
  obtain ⟨j, -, h⟩ := bnd_inv h
  unfold itemK at h
  split at h
  · obtain ⟨n, h1, h⟩ := bnd_inv h
    obtain ⟨j1, h2, h⟩ := bnd_inv h
    obtain ⟨e, h3, h⟩ := bnd_inv h
    obtain ⟨z, h4, h⟩ := bnd_inv h
    obtain ⟨q1, q2⟩ := px_len h3 ho
    injection h with h; rw [← h]; exact ⟨⟨by show e.1.length ≤ 2000; omega, by simp⟩, q2⟩
  split at h
  · obtain ⟨e, h3, h⟩ := bnd_inv h
    obtain ⟨z, h4, h⟩ := bnd_inv h
    obtain ⟨q1, q2⟩ := px_len h3 ho
    injection h with h; rw [← h]; exact ⟨⟨by show e.1.length ≤ 2000; omega, by simp⟩, q2⟩
  split at h
  · obtain ⟨e, h3, h⟩ := bnd_inv h
    obtain ⟨j1, h4, h⟩ := bnd_inv h
    obtain ⟨a, h5, h⟩ := bnd_inv h
    obtain ⟨b, h6, h⟩ := bnd_inv h
    obtain ⟨z, h7, h⟩ := bnd_inv h
    obtain ⟨q1, q2⟩ := px_len h3 ho
    injection h with h; rw [← h]; exact ⟨⟨by show e.1.length ≤ 2000; omega, by simp⟩, q2⟩
  split at h
  · obtain ⟨e, h3, h⟩ := bnd_inv h
    obtain ⟨j1, h4, h⟩ := bnd_inv h
    obtain ⟨f, h5, h⟩ := bnd_inv h
    obtain ⟨z, h6, h⟩ := bnd_inv h
    obtain ⟨q1, q2⟩ := px_len h3 ho
    obtain ⟨r1, r2⟩ := px_len h5 q2
    injection h with h; rw [← h]; exact ⟨⟨by show e.1.length ≤ 2000; omega, by show f.1.length ≤ 2000; omega⟩, r2⟩
  split at h
  · obtain ⟨a, h5, h⟩ := bnd_inv h
    obtain ⟨b, h6, h⟩ := bnd_inv h
    obtain ⟨z, h7, h⟩ := bnd_inv h
    injection h with h; rw [← h]; exact ⟨⟨by simp, by simp⟩, ho⟩
  split at h
  · obtain ⟨a, h5, h⟩ := bnd_inv h
    obtain ⟨z, h7, h⟩ := bnd_inv h
    injection h with h; rw [← h]; exact ⟨⟨by simp, by simp⟩, ho⟩
  split at h
  · obtain ⟨e, h3, h⟩ := bnd_inv h
    obtain ⟨b, h6, h⟩ := bnd_inv h
    obtain ⟨z, h7, h⟩ := bnd_inv h
    obtain ⟨q1, q2⟩ := px_len h3 ho
    injection h with h; rw [← h]; exact ⟨⟨by show e.1.length ≤ 2000; omega, by simp⟩, q2⟩
  · obtain ⟨e, h3, h⟩ := bnd_inv h
    obtain ⟨j1, h4, h⟩ := bnd_inv h
    obtain ⟨a, h5, h⟩ := bnd_inv h
    obtain ⟨z, h7, h⟩ := bnd_inv h
    obtain ⟨q1, q2⟩ := px_len h3 ho
    injection h with h; rw [← h]; exact ⟨⟨by show e.1.length ≤ 2000; omega, by simp⟩, q2⟩
theorem progL_len {T : Nat → Tk} {F : Nat} : ∀ (n : Nat) (L : List Im) (i o : Nat) (L' : List Im), progL T F n L i o = .ok L' → o ≤ 2000 → L.length ≤ 100 → (∀ im ∈ L, OkIm im) → L'.length ≤ 100 ∧ ∀ im ∈ L', OkIm im
  | 0, L, i, o, L', h, _, _, _ => by rw [progL] at h; cases h
  | n + 1, L, i, o, L', h, ho, hl, hk => by
    rw [progL] at h
    split at h
    · injection h with h; rw [← h]; exact ⟨hl, hk⟩
    split at h
    · split at h
      · cases h
      · obtain ⟨x, h1, h⟩ := bnd_inv h
        obtain ⟨q1, q2⟩ := item_len h1 ho
        refine progL_len n _ _ _ _ h q2 (by simp; omega) (fun im hm => ?_)
        rcases List.mem_append.1 hm with hm | hm
        · exact hk im hm
        · rw [List.mem_singleton.1 hm]; exact q1
    · cases h
theorem ans_len (t : List UInt8) : (ansP t).2.2.length ≤ 100 ∧ ∀ im ∈ (ansP t).2.2, OkIm im := by
  unfold ansP
  split
  · simp
  · cases h : progP (tkT t) (fuelT t) with
    | out => simp
    | bad c a => simp
    | ok L =>
      unfold progP at h
      split at h
      · cases h
      split at h
      · cases h
      · exact progL_len _ _ _ _ _ h (by omega) (by simp) (by simp)
end Go.Proofs.YtfoigigbggickaaDoor.Par
namespace Go.Proofs.YtfoigigbggickaaDoor.Par
open Go Go.RowKit Go.Proofs.YtfoigigbggickaaDoor.Mem Go.Proofs.YtfoigigbggickaaDoor.Syn Go.Proofs.YtfoigigbggickaaDoor.Parse
set_option linter.unusedVariables false
set_option linter.unusedSimpArgs false

theorem pcnt_le {L : List Im} (h : ∀ im ∈ L, OkIm im) : ∀ k, Syn.cnt (prOf L) k ≤ k * 4000
  | 0 => Nat.le_refl _
  | k + 1 => by
    have ih := pcnt_le h k
    have hE : ((prOf L).I k).nE ≤ 2000 ∧ ((prOf L).I k).nF ≤ 2000 := by
      show (L.getD k imD).E.length ≤ 2000 ∧ (L.getD k imD).F.length ≤ 2000
      rcases Nat.lt_or_ge k L.length with hk | hk
      · have : L.getD k imD = L[k] := by simp [hk]
        rw [this]; exact h _ (List.getElem_mem hk)
      · have : L.getD k imD = imD := by simp [List.getElem?_eq_none hk]
        rw [this]; simp [imD]
    show Syn.cnt (prOf L) k + _ ≤ _
    omega
theorem ans_cnt (t : List UInt8) : Syn.cnt (prOf (ansP t).2.2) (ansP t).2.2.length ≤ 400000 := by
  have h1 := ans_len t
  have h2 := pcnt_le h1.2 (ansP t).2.2.length
  have := h1.1
  have : (ansP t).2.2.length * 4000 ≤ 100 * 4000 := Nat.mul_le_mul_right _ h1.1
  omega
/-- A copy of a text, as the parsers take it. -/
theorem txt_copy {w : World} {g n : Nat} {t : List UInt8} (hn : n = t.length) (h : Rd w (some ⟨g, 0, none⟩) t) : Txt w.heap.size w (.slice (some ⟨g, 0, none⟩) n n) t := by
  subst hn
  refine ⟨_, _, rfl, Nat.le_refl _, Or.inr ⟨g, 0, rfl, fun j hj => ?_⟩⟩
  obtain ⟨g', o', e', h2⟩ := h j hj
  injection e' with e'
  injection e' with e1 e2 _
  subst e1 e2
  exact ⟨lt_of_cell h2, h2⟩
/-- The program's answer: its rows of its own. -/
def AA (L : List Im) (B : Nat) (w : World) (v : Value) : Prop := ∃ cs e, w.ownsRow B 45 7 v L.length cs ∧ Its w B e cs L
theorem AA.below {L : List Im} {B : Nat} {w w' : World} {v : Value} (h : AA L B w v) (hb : Below w.heap.size w w') : AA L B w' v := by
  obtain ⟨cs, e, h1, h2⟩ := h
  exact ⟨cs, e, row_below h1 hb, itsKeep h2 hb⟩
theorem AA.ne {L : List Im} {B g : Nat} {w w' : World} {v : Value} (h : AA L B w v) (hg : w.grownBy w' (some g)) (hne : g < B) : AA L B w' v := by
  obtain ⟨cs, e, h1, h2⟩ := h
  refine ⟨cs, e, ⟨h1.1, ?_⟩, h2.keep fun x C fr hx hc => by rw [hg.block x (blk_lt hc) (by intro e; injection e with e; omega)]; exact hc⟩
  rcases h1.2 with h0 | ⟨b, cap, cur, k1, k2, k3, k4⟩
  · exact Or.inl h0
  · exact Or.inr ⟨b, cap, cur, k1, k2, by rw [hg.block b (blk_lt k3) (by intro e; injection e with e; omega)]; exact k3, k4⟩
theorem AA.pr {L : List Im} {B : Nat} {w : World} {v : Value} (h : AA L B w v) : ∃ a c lo, v = .slice a L.length c ∧ PrAt w a (prOf L) lo := by
  obtain ⟨cs, e, h1, h2⟩ := h
  exact pr_at h1 h2.itr
end Go.Proofs.YtfoigigbggickaaDoor.Par
