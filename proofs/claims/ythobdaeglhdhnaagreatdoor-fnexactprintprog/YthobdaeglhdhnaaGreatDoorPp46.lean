import Derived.Test.YthobdaeglhdhnaaGreatDoorPp40
import Derived.Test.YthobdaeglhdhnaaGreatDoorPp45
namespace Go.Proofs.YthobdaeglhdhnaaGreatDoor.LawP
open Go Go.RowKit Go.Proofs.YthobdaeglhdhnaaGreatDoor.Mem Go.Proofs.YthobdaeglhdhnaaGreatDoor.Syn Go.Proofs.YthobdaeglhdhnaaGreatDoor.OpenP Go.Proofs.YthobdaeglhdhnaaGreatDoor.MarksB
set_option linter.unusedVariables false
set_option linter.unusedSimpArgs false
attribute [local go_sem ↓] Go.wp_at_zero Go.wp_at_succ

theorem thq {w : World} {b N o : Nat} (h : w.there b 0 N) (ho : o < N) : ∃ v, w.cell? ⟨b, o, none⟩ = some v ∧ w.frozen? ⟨b, o, none⟩ = false := by
  obtain ⟨h1, h2⟩ := h o ho
  rw [Nat.zero_add] at h1 h2
  obtain ⟨v, hv⟩ := Option.isSome_iff_exists.1 h1
  exact ⟨v, hv, h2⟩
/-- What could be written can still be. -/
def Thr (w w' : World) : Prop := ∀ b o m, w.there b o m → w'.there b o m
theorem Thr.refl (w : World) : Thr w w := fun _ _ _ h => h
theorem Thr.trans {a b c : World} (h : Thr a b) (k : Thr b c) : Thr a c := fun x o m hx => k x o m (h x o m hx)
theorem Thr.set (w : World) (b o : Nat) (v : Value) : Thr w (w.setCell ⟨b, o, none⟩ v) := fun x p m h => there_set1 h b o v
theorem Thr.below {w w' : World} (hb : Below w.heap.size w w') : Thr w w' := fun b o m h => fun j hj => by
  obtain ⟨h1, h2⟩ := h j hj
  obtain ⟨v, hv⟩ := Option.isSome_iff_exists.1 h1
  have hl : b < w.heap.size := lt_of_cell hv
  rw [hb.cell (p := ⟨b, o + j, none⟩) hl, hb.frozen (p := ⟨b, o + j, none⟩) hl]
  exact ⟨h1, h2⟩
theorem grown_below {w w' : World} (hb : Below w.heap.size w w') (r : Option Nat) : w.grownBy w' r := ⟨hb.os, hb.tape, hb.output, hb.size, fun k hk _ => hb.block k hk⟩
set_option maxHeartbeats 3200000 in
set_option maxRecDepth 100000 in
theorem markOpS (g n cap : Nat) (k : Int) (w : World) (ht0 : w.there g 0 (n * 3)) (hn : n ≤ 1048576) (h0 : 0 ≤ k) (h1 : k ≤ 10000000) :
    Calls Tryz.prog 36 #[.slice (some ⟨g, 0, none⟩) n cap, .int .i64 k] w fun e w' => e = .returned (.int .i64 (k + 3 * n)) ∧ w.grownBy w' (some g) ∧ Thr w w' := by
  have HT := Hid.mk ht0
  clear ht0
  go_enter Tryz.func36, Tryz.ntmps36
  go_wp2
  go_loopw [1, 5] (fun kk i wr => ∃ j : Nat, j ≤ n ∧ i = .int .i64 j ∧ kk = .int .i64 (k + 3 * j) ∧ Hid (w.grownBy wr (some g)) ∧ Hid (Thr w wr)) (fun _ i _ => n - (intOf i).toNat)
  case atStart => exact ⟨0, Nat.zero_le _, rfl, by simp, grown_refl _ _, Thr.refl _⟩
  case round =>
    obtain ⟨j, hj, rfl, rfl, hg, hth⟩ := hrel
    by_cases hlt : j < n
    · have TH := Hid.mk (hth.out _ _ _ HT.out)
      obtain ⟨v0, d0, f0⟩ := thq (o := j * 3) TH.out (by omega)
      obtain ⟨v1, d1, f1⟩ := thq (o := j * 3 + 1) TH.out (by omega)
      go_wp2_with fail
      obtain ⟨Z, hZ⟩ : ∃ Z : World, Z = (wr.setCell ⟨g, j * 3, none⟩ (.int .i64 (k + 3 * ↑j))).setCell ⟨g, j * 3 + 1, none⟩ (.int .i64 (k + 3 * ↑j + 1)) := ⟨_, rfl⟩
      rw [← hZ]
      have gZ : w.grownBy Z (some g) := by rw [hZ]; exact (hg.out.trans (grown_set _ _ _ _)).trans (grown_set _ _ _ _)
      have tZ : Thr w Z := by rw [hZ]; exact (hth.out.trans (Thr.set _ _ _ _)).trans (Thr.set _ _ _ _)
      have GZ := Hid.mk gZ
      have TZ := Hid.mk tZ
      clear hZ gZ tZ hg hth TH d0 d1 f0 f1
      refine (markText _ _ (by omega) (by omega)).mono ?_
      rintro e w2 ⟨t, rfl, hb2⟩
      have G2 := Hid.mk (GZ.out.trans (grown_below hb2 (some g)))
      have T2 := Hid.mk (TZ.out.trans (Thr.below hb2))
      clear hb2 GZ TZ
      obtain ⟨v2, d2, f2⟩ := thq (o := j * 3 + 2) (T2.out _ _ _ HT.out) (by omega)
      go_wp2
      exact ⟨⟨j + 1, by omega, by go_num, by congr 1; omega, G2.out.trans (grown_set _ _ _ _), T2.out.trans (Thr.set _ _ _ _)⟩, by simp [intOf]; omega⟩
    · have hkn : j = n := by omega
      subst hkn
      go_wp2
      go_ret
      exact ⟨rfl, hg.out, hth.out⟩
/-- Below lo nothing has turned, and from hi on nothing that was there. -/
def Mid (lo hi : Nat) (w w' : World) : Prop := Below lo w w' ∧ ∀ g, hi ≤ g → g < w.heap.size → w'.heap[g]? = w.heap[g]?
theorem Mid.refl (lo hi : Nat) (w : World) : Mid lo hi w w := ⟨Below.refl _ _, fun _ _ _ => rfl⟩
theorem Mid.trans {lo hi : Nat} {a b c : World} (h : Mid lo hi a b) (k : Mid lo hi b c) : Mid lo hi a c :=
  ⟨h.1.trans k.1, fun g h1 h2 => by rw [k.2 g h1 (Nat.lt_of_lt_of_le h2 h.1.size)]; exact h.2 g h1 h2⟩
theorem Mid.grown {lo hi g : Nat} {w w' : World} (h : w.grownBy w' (some g)) (h1 : lo ≤ g) (h2 : g < hi) (h3 : lo ≤ w.heap.size) : Mid lo hi w w' :=
  ⟨(Below.refl _ _).grown h h3 (fun k hk => by injection hk with hk; omega), fun k hk hl => h.block k hl (fun e => by injection e with e; omega)⟩
theorem Mid.below {lo hi : Nat} {w w' : World} (h : Below w.heap.size w w') (h3 : lo ≤ w.heap.size) : Mid lo hi w w' := ⟨h.mono h3, fun g _ hg => h.block g hg⟩
/-- The lists of Ops that are not marked yet. -/
def Yet (w : World) (g : Nat) (P : Pr) (L : Nat → Lo) (j : Nat) : Prop := ∀ i, j ≤ i → i < P.n → w.cell? ⟨g, i * 7 + 2, none⟩ = some (.slice (L i).aE (P.I i).nE (L i).cE) ∧ w.cell? ⟨g, i * 7 + 3, none⟩ = some (.slice (L i).aF (P.I i).nF (L i).cF)
theorem Yet.grown {w w' : World} {g r : Nat} {P : Pr} {L : Nat → Lo} {j : Nat} (h : Yet w g P L j) (hg : w.grownBy w' (some r)) (hne : g ≠ r) : Yet w' g P L j := fun i h1 h2 => by
  obtain ⟨a, b⟩ := h i h1 h2
  have hl : g < w.heap.size := lt_of_cell a
  have e := hg.block g hl (fun q => hne (Option.some.inj q))
  rw [World.cell?_of_block (a := ⟨g, i * 7 + 2, none⟩) e, World.cell?_of_block (a := ⟨g, i * 7 + 3, none⟩) e]
  exact ⟨a, b⟩
theorem Yet.below {w w' : World} {g : Nat} {P : Pr} {L : Nat → Lo} {j : Nat} (h : Yet w g P L j) (hb : Below w.heap.size w w') : Yet w' g P L j := fun i h1 h2 => ⟨cell_keep hb (h i h1 h2).1, cell_keep hb (h i h1 h2).2⟩
theorem Yet.set {w : World} {g : Nat} {P : Pr} {L : Nat → Lo} {j o : Nat} {v : Value} (h : Yet w g P L j) (ho : ∀ i, j ≤ i → o ≠ i * 7 + 2 ∧ o ≠ i * 7 + 3) : Yet (w.setCell ⟨g, o, none⟩ v) g P L j := fun i h1 h2 => by
  obtain ⟨a, b⟩ := h i h1 h2
  obtain ⟨q1, q2⟩ := ho i h1
  rw [World.cell?_setCell_other _ _ _ _ (by intro e; injection e; omega), World.cell?_setCell_other _ _ _ _ (by intro e; injection e; omega)]
  exact ⟨a, b⟩
theorem Yet.next {w : World} {g : Nat} {P : Pr} {L : Nat → Lo} {j : Nat} (h : Yet w g P L j) : Yet w g P L (j + 1) := fun i h1 h2 => h i (by omega) h2
set_option maxHeartbeats 6400000 in
set_option maxRecDepth 100000 in
theorem markItemS (lo hi : Nat) (P : Pr) (g cap : Nat) (L : Nat → Lo) (k : Int) (w : World) (ht0 : w.there g 0 (P.n * 7)) (hy0 : Yet w g P L 0) (hop : ∀ i, i < P.n → (∃ r, (L i).aE = some ⟨r, 0, none⟩ ∧ g < r ∧ r < hi ∧ w.there r 0 ((P.I i).nE * 3)) ∧ ∃ r, (L i).aF = some ⟨r, 0, none⟩ ∧ g < r ∧ r < hi ∧ w.there r 0 ((P.I i).nF * 3)) (hlo : lo ≤ g) (hgh : g < hi) (hlw : lo ≤ w.heap.size) (hn : P.n ≤ 1048576) (hc : cnt P P.n ≤ 1048576) (h0 : 0 ≤ k) (h1 : k ≤ 1000) :
    Calls Tryz.prog 20 #[.slice (some ⟨g, 0, none⟩) P.n cap, .int .i64 k] w fun e w' => ∃ r : Int, e = .returned (.int .i64 r) ∧ 0 ≤ r ∧ Mid lo hi w w' := by
  have HT := Hid.mk ht0
  have HY := Hid.mk hy0
  have HO := Hid.mk hop
  have HC : Hid (∀ j, j < P.n → cnt P j + ((P.I j).nE + (P.I j).nF) = cnt P (j + 1) ∧ cnt P (j + 1) ≤ 1048576) := fun j hj => ⟨rfl, Nat.le_trans (cnt_mono P (show j + 1 ≤ P.n from hj)) hc⟩
  clear ht0 hy0 hop hc
  obtain ⟨n, hN⟩ : ∃ n, n = P.n := ⟨_, rfl⟩
  rw [← hN] at hn HT HO HC
  have HN := Hid.mk hN
  rw [← hN]
  clear hN
  go_enter Tryz.func20, Tryz.ntmps20
  go_wp2
  go_loopw [1, 5] (fun kk i wr => ∃ (j : Nat) (z : Int), j ≤ n ∧ i = .int .i64 j ∧ kk = .int .i64 z ∧ 0 ≤ z ∧ z ≤ 1000 + 5 * j + 3 * (cnt P j : Int) ∧ Hid (Yet wr g P L j) ∧ Hid (Mid lo hi w wr) ∧ Hid (Thr w wr)) (fun _ i _ => n - (intOf i).toNat)
  case atStart => exact ⟨0, k, Nat.zero_le _, rfl, rfl, h0, by omega, HY, Mid.refl _ _ _, Thr.refl _⟩
  case round =>
    obtain ⟨j, z, hj, rfl, rfl, z0, z1, hy, hm, hth⟩ := hrel
    by_cases hlt : j < n
    · obtain ⟨hc1, hc2⟩ := HC.out j hlt
      obtain ⟨⟨rE, hrE, rE1, rE2, rE3⟩, rF, hrF, rF1, rF2, rF3⟩ := HO.out j hlt
      have TE := Hid.mk rE3
      have TF := Hid.mk rF3
      have hjP : j < P.n := by rw [← HN.out]; exact hlt
      obtain ⟨nE, hnE⟩ : ∃ q, q = (P.I j).nE := ⟨_, rfl⟩
      obtain ⟨nF, hnF⟩ : ∃ q, q = (P.I j).nF := ⟨_, rfl⟩
      have CY : Hid (∀ W, Yet W g P L j → W.cell? ⟨g, j * 7 + 2, none⟩ = some (.slice (some ⟨rE, 0, none⟩) nE (L j).cE) ∧ W.cell? ⟨g, j * 7 + 3, none⟩ = some (.slice (some ⟨rF, 0, none⟩) nF (L j).cF)) := fun W hW => by
        rw [← hrE, ← hrF, hnE, hnF]; exact hW j (Nat.le_refl _) hjP
      rw [← hnE] at hc1 TE
      rw [← hnF] at hc1 TF
      obtain ⟨cj, hcj⟩ : ∃ q, q = cnt P j := ⟨_, rfl⟩
      obtain ⟨cj', hcj'⟩ : ∃ q, q = cnt P (j + 1) := ⟨_, rfl⟩
      rw [← hcj] at z1 hc1
      rw [← hcj'] at hc1 hc2
      have HCJ := Hid.mk hcj'
      clear rE3 rF3 hnE hnF hcj hcj' hrE hrF hjP
      obtain ⟨v0, d0, f0⟩ := thq (o := j * 7) (hth.out _ _ _ HT.out) (by omega)
      go_wp2_with fail
      clear d0 f0
      obtain ⟨Z, hZ⟩ : ∃ Z : World, Z = wr.setCell ⟨g, j * 7, none⟩ (.int .i64 z) := ⟨_, rfl⟩
      rw [← hZ]
      have YZ : Hid (Yet Z g P L j) := by unfold Hid; rw [hZ]; exact hy.out.set (fun i hi => by omega)
      have MZ : Hid (Mid lo hi w Z) := by unfold Hid; rw [hZ]; exact hm.out.trans (Mid.grown (grown_set _ _ _ _) hlo hgh (Nat.le_trans hlw hm.out.1.size))
      have TZ : Hid (Thr w Z) := by unfold Hid; rw [hZ]; exact hth.out.trans (Thr.set _ _ _ _)
      clear hZ hy hm hth
      refine (markText _ _ (by omega) (by omega)).mono ?_
      rintro e w1 ⟨t, rfl, hb1⟩
      have Y1 := Hid.mk (YZ.out.below hb1)
      have M1 := Hid.mk (MZ.out.trans (Mid.below hb1 (Nat.le_trans hlw MZ.out.1.size)))
      have T1 := Hid.mk (TZ.out.trans (Thr.below hb1))
      clear hb1 YZ MZ TZ
      obtain ⟨v1, d1, f1⟩ := thq (o := j * 7 + 1) (T1.out _ _ _ HT.out) (by omega)
      obtain ⟨e2, e3⟩ := CY.out _ Y1.out
      go_wp2_with fail
      clear d1 f1 e2 e3
      obtain ⟨Z, hZ⟩ : ∃ Z : World, Z = w1.setCell ⟨g, j * 7 + 1, none⟩ (.string t) := ⟨_, rfl⟩
      rw [← hZ]
      have YZ : Hid (Yet Z g P L j) := by unfold Hid; rw [hZ]; exact Y1.out.set (fun i hi => by omega)
      have MZ : Hid (Mid lo hi w Z) := by unfold Hid; rw [hZ]; exact M1.out.trans (Mid.grown (grown_set _ _ _ _) hlo hgh (Nat.le_trans hlw M1.out.1.size))
      have TZ : Hid (Thr w Z) := by unfold Hid; rw [hZ]; exact T1.out.trans (Thr.set _ _ _ _)
      clear hZ Y1 M1 T1
      refine (markOpS rE nE _ _ _ (TZ.out _ _ _ TE.out) (by omega) (by omega) (by omega)).mono ?_
      rintro e w2 ⟨rfl, hg2, ht2⟩
      have Y2 := Hid.mk (YZ.out.grown hg2 (by omega))
      have M2 := Hid.mk (MZ.out.trans (Mid.grown hg2 (by omega) rE2 (Nat.le_trans hlw MZ.out.1.size)))
      have T2 := Hid.mk (TZ.out.trans ht2)
      clear hg2 ht2 YZ MZ TZ
      obtain ⟨e2, e3⟩ := CY.out _ Y2.out
      go_wp2_with fail
      clear e2 e3
      refine (markOpS rF nF _ _ _ (T2.out _ _ _ TF.out) (by omega) (by omega) (by omega)).mono ?_
      rintro e w3 ⟨rfl, hg3, ht3⟩
      have Y3 := Hid.mk (Y2.out.grown hg3 (by omega))
      have M3 := Hid.mk (M2.out.trans (Mid.grown hg3 (by omega) rF2 (Nat.le_trans hlw M2.out.1.size)))
      have T3 := Hid.mk (T2.out.trans ht3)
      clear hg3 ht3 Y2 M2 T2
      obtain ⟨v4, d4, f4⟩ := thq (o := j * 7 + 4) (T3.out _ _ _ HT.out) (by omega)
      obtain ⟨v5, d5, f5⟩ := thq (o := j * 7 + 5) (T3.out _ _ _ HT.out) (by omega)
      obtain ⟨v6, d6, f6⟩ := thq (o := j * 7 + 6) (T3.out _ _ _ HT.out) (by omega)
      have s4 : ∀ (W : World) (v : Value), Yet W g P L j → Mid lo hi w W → Thr w W → ∀ o, (o = j * 7 + 4 ∨ o = j * 7 + 5 ∨ o = j * 7 + 6) → Yet (W.setCell ⟨g, o, none⟩ v) g P L j ∧ Mid lo hi w (W.setCell ⟨g, o, none⟩ v) ∧ Thr w (W.setCell ⟨g, o, none⟩ v) := fun W v h1 h2 h3 o ho => ⟨h1.set (fun i hi => by omega), h2.trans (Mid.grown (grown_set _ _ _ _) hlo hgh (Nat.le_trans hlw h2.1.size)), h3.trans (Thr.set _ _ _ _)⟩
      have S4 := Hid.mk s4
      clear s4
      go_wp2
      obtain ⟨a1, a2, a3⟩ := S4.out _ (.int .i64 (z + 1 + 1 + 3 * ↑nE + 3 * ↑nF)) Y3.out M3.out T3.out _ (Or.inl rfl)
      obtain ⟨b1, b2, b3⟩ := S4.out _ (.int .i64 (z + 1 + 1 + 3 * ↑nE + 3 * ↑nF + 1)) a1 a2 a3 _ (Or.inr (Or.inl rfl))
      obtain ⟨c1, c2, c3⟩ := S4.out _ (.int .i64 (z + 1 + 1 + 3 * ↑nE + 3 * ↑nF + 1 + 1)) b1 b2 b3 _ (Or.inr (Or.inr rfl))
      exact ⟨⟨j + 1, _, by omega, by go_num, rfl, by omega, by rw [← HCJ.out]; omega, c1.next, c2, c3⟩, by simp [intOf]; omega⟩
    · go_wp2
      go_ret
      exact ⟨_, rfl, z0, hm.out⟩
theorem markProg (lo hi : Nat) (P : Pr) (a : Option Addr) (cap : Nat) (L : Nat → Lo) (k : Int) (w w0 : World) (hcp : PrCp w lo a P L) (hcp0 : PrCp w0 lo a P L) (hhi : w0.heap.size ≤ hi) (hn : P.n ≤ 1048576) (hc : cnt P P.n ≤ 1048576) (h0 : 0 ≤ k) (h1 : k ≤ 1000) (hlw : lo ≤ w.heap.size) :
    Calls Tryz.prog 10 #[.agg #[.slice a P.n cap], .int .i64 k] w fun e w' => ∃ r : Int, e = .returned (.int .i64 r) ∧ 0 ≤ r ∧ Mid lo hi w w' := by
  obtain ⟨g, rfl, g1, g2, g3, g4⟩ := hcp.g
  obtain ⟨g', hg', -, g2', -, -⟩ := hcp0.g
  have hgg : g < hi := by injection hg' with hg'; injection hg' with hg'; omega
  clear hg'
  have hO : ∀ i, i < P.n → (∃ r, (L i).aE = some ⟨r, 0, none⟩ ∧ g < r ∧ r < hi ∧ w.there r 0 ((P.I i).nE * 3)) ∧ ∃ r, (L i).aF = some ⟨r, 0, none⟩ ∧ g < r ∧ r < hi ∧ w.there r 0 ((P.I i).nF * 3) := fun i hi => by
    obtain ⟨⟨⟨r, e, r1, r2, r3, -⟩⟩, ⟨⟨s, e', s1, s2, s3, -⟩⟩⟩ := hcp.o g rfl i hi
    obtain ⟨⟨⟨r', q, -, r2', -, -⟩⟩, ⟨⟨s', q', -, s2', -, -⟩⟩⟩ := hcp0.o g rfl i hi
    rw [e] at q
    rw [e'] at q'
    injection q with q
    injection q with q
    injection q' with q'
    injection q' with q'
    exact ⟨⟨r, e, by omega, by omega, r3⟩, s, e', by omega, by omega, s3⟩
  have hY : Yet w g P L 0 := fun i _ hi => by
    obtain ⟨c0, c1, c2, c3, c4, c5, c6⟩ := It.at (g4 i hi)
    rw [Nat.zero_add] at c2 c3
    exact ⟨c2, c3⟩
  have HO := Hid.mk hO
  have HY := Hid.mk hY
  have HT := Hid.mk g3
  clear hO hY g3 g4 hcp hcp0 g2'
  go_enter Tryz.func10, Tryz.ntmps10
  go_wp2_with fail
  have hb0 : Below w.heap.size w (w.alloc (.cells #[.slice (some ⟨g, 0, none⟩) P.n cap] 30)) := below_alloc' (Below.refl _ _) _
  refine (markItemS lo hi P g cap L k _ (Thr.below hb0 _ _ _ HT.out) (HY.out.below hb0) (fun i hi => ?_) g1 hgg (Nat.le_trans hlw hb0.size) hn hc h0 h1).mono ?_
  · obtain ⟨⟨r, e, r1, r2, r3⟩, s, e', s1, s2, s3⟩ := HO.out i hi
    exact ⟨⟨r, e, r1, r2, Thr.below hb0 _ _ _ r3⟩, s, e', s1, s2, Thr.below hb0 _ _ _ s3⟩
  rintro e w1 ⟨r, rfl, r0, hm⟩
  have M := Hid.mk ((Mid.below (hi := hi) hb0 hlw).trans hm)
  clear hb0 hm
  go_wp2
  go_ret
  exact ⟨r, rfl, r0, M.out⟩
end Go.Proofs.YthobdaeglhdhnaaGreatDoor.LawP
