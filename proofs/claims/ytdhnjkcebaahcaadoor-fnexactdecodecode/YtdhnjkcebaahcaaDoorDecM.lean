import Derived.Test.YtdhnjkcebaahcaaDoorDecL
import Derived.Test.YtdhnjkcebaahcaaDoorValCI
namespace Go.Proofs.YtdhnjkcebaahcaaDoor.Dec
open Go Go.RowKit Go.Proofs.YtdhnjkcebaahcaaDoor.Mem Go.Proofs.YtdhnjkcebaahcaaDoor.ValC Go.Proofs.YtdhnjkcebaahcaaDoor.Enc
set_option linter.unusedVariables false
set_option linter.unusedSimpArgs false
attribute [local go_sem ↓] Go.wp_at_zero Go.wp_at_succ

def Dc.co (d : Dc) : Co := ⟨d.R, d.S, d.L1.length, d.L2.length, d.L3.length, fun i => d.L1.getD i ⟨0, 0, 0, 0⟩, fun i => d.L2.getD i ⟨0, 0, 0, 0⟩, fun i => d.L3.getD i ⟨0, 0, 0, 0⟩⟩
def zc : Dc := ⟨0, 0, [], [], []⟩
theorem flat_get : ∀ (L : List Is) (i j : Nat), i < L.length → j < 4 → (L.flatMap Is.cells)[i * 4 + j]? = (L.getD i ⟨0, 0, 0, 0⟩).cells[j]?
  | [], i, j, h, _ => absurd h (Nat.not_lt_zero _)
  | x :: r, 0, j, _, hj => by
    rw [List.flatMap_cons, List.getElem?_append_left (by rw [Is.len]; omega)]
    simp
  | x :: r, i + 1, j, h, hj => by
    rw [List.flatMap_cons, List.getElem?_append_right (by rw [Is.len]; omega), Is.len]
    have := flat_get r i j (by simpa using h) hj
    rw [show (i + 1) * 4 + j - 4 = i * 4 + j by omega, this]
    simp
theorem own_slice {w : World} {B m : Nat} {e : TypeId} {a : Option Addr} {L : List Is} (h : w.ownsRow B e 4 (.slice a L.length m) L.length (L.flatMap Is.cells)) : SliceAt w a L.length 4 (fun i => (L.getD i ⟨0, 0, 0, 0⟩).cells) := by
  rcases h.2 with ⟨-, h0⟩ | ⟨g, cap, cur, e1, h2, h3, h4, h5, h6, h7⟩
  · exact Or.inl h0
  · injection e1 with e1 _ _
    refine Or.inr ⟨g, 0, e1, fun i hi j u hu => ?_⟩
    have hj : j < 4 := by
      have := List.getElem?_eq_some_iff.1 hu
      obtain ⟨hl, -⟩ := this
      rw [Is.len] at hl; exact hl
    have := flat_get L i j hi hj
    rw [hu, ← h7, List.getElem?_take, if_pos (by omega)] at this
    rw [blk_cell h3, Nat.zero_add]
    rw [← this]; simp

noncomputable def decA (bs : List UInt8) : Dc := open Classical in if h : ∃ d, Shape bs d ∧ okCo d.co = true then h.choose else zc
theorem decA_yes {bs : List UInt8} {d : Dc} (h : Shape bs d) (hv : okCo d.co = true) : decA bs = d := by
  have hx : ∃ d, Shape bs d ∧ okCo d.co = true := ⟨d, h, hv⟩
  unfold decA
  rw [dif_pos hx]
  exact shape_one hx.choose_spec.1 h
theorem decA_none {bs : List UInt8} (h : NoShape bs) : decA bs = zc := by
  unfold decA
  rw [dif_neg]
  rintro ⟨d, hd, -⟩
  exact h d hd
theorem decA_bad {bs : List UInt8} {d : Dc} (h : Shape bs d) (hv : okCo d.co = false) : decA bs = zc := by
  unfold decA
  rw [dif_neg]
  rintro ⟨e, he, hw⟩
  rw [shape_one he h, hv] at hw
  cases hw
theorem gb_below {B r : Nat} {W w1 : World} (h : W.grownBy w1 (some r)) (hr : B ≤ r) (hB : B ≤ W.heap.size) : Below B W w1 :=
  ⟨h.os, h.tape, h.output, h.size, fun k hk => h.block k (by omega) (by intro e; injection e with e; omega)⟩

/-- What decoding leaves. -/
inductive DecP (w w' : World) (bs : List UInt8) (e : Ending) : Prop
  | mk (s1 s2 s3 : Option Addr) (m1 m2 m3 : Nat) (he : e = .returned (.agg #[.int .i64 (decA bs).R, .int .i64 (decA bs).S, .slice s1 (decA bs).L1.length m1, .slice s2 (decA bs).L2.length m2, .slice s3 (decA bs).L3.length m3])) (B1 B2 : Nat) (hB : w.heap.size ≤ B1 ∧ B1 ≤ B2) (p1 : ∀ g, (Value.slice s1 (decA bs).L1.length m1).ownBlock = some g → g < B1) (p2 : ∀ g, (Value.slice s2 (decA bs).L2.length m2).ownBlock = some g → g < B2)
      (o1 : w'.ownsRow w.heap.size 90 4 (.slice s1 (decA bs).L1.length m1) (decA bs).L1.length ((decA bs).L1.flatMap Is.cells)) (o2 : w'.ownsRow B1 90 4 (.slice s2 (decA bs).L2.length m2) (decA bs).L2.length ((decA bs).L2.flatMap Is.cells)) (o3 : w'.ownsRow B2 90 4 (.slice s3 (decA bs).L3.length m3) (decA bs).L3.length ((decA bs).L3.flatMap Is.cells))
      (l1 : (decA bs).L1.length ≤ 16384) (l2 : (decA bs).L2.length ≤ 16384) (l3 : (decA bs).L3.length ≤ 16384) (hb : Below w.heap.size w w') : DecP w w' bs e
theorem DecP.zero {w w' : World} {bs : List UInt8} {e : Ending} (h : decA bs = zc) (he : e = .returned (.agg #[.int .i64 0, .int .i64 0, .slice none 0 0, .slice none 0 0, .slice none 0 0])) (hb : Below w.heap.size w w') : DecP w w' bs e := by
  refine DecP.mk none none none 0 0 0 ?_ w.heap.size w.heap.size ⟨Nat.le_refl _, Nat.le_refl _⟩ ?_ ?_ ?_ ?_ ?_ ?_ ?_ ?_ hb <;> rw [h]
  · exact he
  · intro g hg; cases hg
  · intro g hg; cases hg
  · exact World.ownsRow_nil w' _ _ _
  · exact World.ownsRow_nil w' _ _ _
  · exact World.ownsRow_nil w' _ _ _
  · exact Nat.zero_le _
  · exact Nat.zero_le _
  · exact Nat.zero_le _

theorem put5 {V : World} {g : Nat} {z0 z1 z2 z3 z4 : Value} {T : TypeId} (h : V.heap[g]? = some (.cells #[z0, z1, z2, z3, z4] T)) (u0 u1 u2 u3 u4 : Value) : ∃ Z : World, (((((V.setCell ⟨g, 0, none⟩ u0).setCell ⟨g, 1, none⟩ u1).setCell ⟨g, 2, none⟩ u2).setCell ⟨g, 3, none⟩ u3).setCell ⟨g, 4, none⟩ u4) = Z ∧ Z.heap[g]? = some (.cells #[u0, u1, u2, u3, u4] T) ∧ Below g V Z ∧ ∀ (B s n : Nat) (v : Value) (e : TypeId) (xs : List Value), e ≠ T → V.ownsRow B e s v n xs → Z.ownsRow B e s v n xs := by
  refine ⟨_, rfl, ?_, ?_, ?_⟩
  · have := blk_set (blk_set (blk_set (blk_set (blk_set h 0 u0) 1 u1) 2 u2) 3 u3) 4 u4
    simpa using this
  · exact Below.setCells' g (Nat.le_refl _) [u0, u1, u2, u3, u4] 0 V (Below.refl _ _)
  · intro B s n v e xs hne ho
    exact row_set (row_set (row_set (row_set (row_set ho h hne) (blk_set h 0 _) hne) (blk_set (blk_set h 0 _) 1 _) hne) (blk_set (blk_set (blk_set h 0 _) 1 _) 2 _) hne) (blk_set (blk_set (blk_set (blk_set h 0 _) 1 _) 2 _) 3 _) hne

set_option maxHeartbeats 3200000 in
set_option maxRecDepth 100000 in
theorem decodeI (bs : List UInt8) (n : Nat) (a : Option Addr) (c : Nat) (w : World) (hn : n = bs.length) (hr : RdB w a bs) (hc : n ≤ c) (hl : n ≤ 1048576) (hlow : ∀ p, a = some p → p.block < w.heap.size) (hT : TabC w) :
    Calls Tryd.prog 26 #[.slice a n c] w fun e w' => DecP w w' bs e := by
  have HR := Hid.mk hr
  have HT := Hid.mk hT
  have HN := Hid.mk hn
  have HL := Hid.mk hlow
  clear hr hT hn hlow
  go_enter Tryd.func26, Tryd.ntmps26
  go_wp2_with fail
  obtain ⟨W, hW⟩ : ∃ W : World, W = (w.alloc (.cells #[.int .i64 0, .int .i64 0, .slice none 0 0, .slice none 0 0, .slice none 0 0] 48)).alloc (.cells #[.slice a n c, .bool false] 98) := ⟨_, rfl⟩
  rw [← hW]
  have BW : Hid (Below w.heap.size w W) := by unfold Hid; rw [hW]; go_grown
  have A0 : Hid (W.heap[w.heap.size]? = some (.cells #[.int .i64 0, .int .i64 0, .slice none 0 0, .slice none 0 0, .slice none 0 0] 48)) := by unfold Hid; rw [hW]; exact blk_alloc (blk_new w _) _
  have X0 : Hid (W.heap[w.heap.size + 1]? = some (.cells #[.slice a n c, .bool false] 98)) := by unfold Hid; rw [hW]; exact blk_new1 w _ _
  clear hW
  have D0 : Hid (De W (w.heap.size + 1) w.heap.size bs false a c) := ⟨by rw [← HN.out]; exact X0.out, by rw [← HN.out]; exact hc, HR.out.below BW.out, HL.out, by rw [← HN.out]; omega⟩
  refine (codeI (w.heap.size + 1) w.heap.size bs a c W D0.out (by omega)).mono ?_
  rintro e w1 ⟨d, v1, v2, v3, b, f, a1, c1, rfl, o1, B1, B2', hB, p1, p2, o2, o3, l1, l2, l3, hd, hg, hs⟩
  obtain ⟨s1, m1, rfl⟩ := row_shape2 o1
  obtain ⟨s2, m2, rfl⟩ := row_shape2 o2
  obtain ⟨s3, m3, rfl⟩ := row_shape2 o3
  have hsz := BW.out.size
  have hsz1 := hg.size
  have BG : Hid (Below w.heap.size w w1) := BW.out.trans (gb_below hg (by omega) hsz)
  have A1 := Hid.mk (blk_gb A0.out hg (by omega))
  have O1 := Hid.mk o1
  have O2 := Hid.mk o2
  have O3 := Hid.mk o3
  have DD := Hid.mk hd
  have SS := Hid.mk hs
  have PP := Hid.mk (And.intro hB (And.intro p1 p2))
  have hw0 := blk_lt A1.out
  clear hd hg hs o1 o2 o3 hB p1 p2 A0 X0 D0 BW
  go_upto_region 3 with fail
  obtain ⟨V, hV⟩ : ∃ V : World, V = w1.alloc (.cells #[.int .i64 d.R, .int .i64 d.S, .slice s1 d.L1.length m1, .slice s2 d.L2.length m2, .slice s3 d.L3.length m3] 48) := ⟨_, rfl⟩
  rw [← hV]
  have BV0 : Hid (Below w1.heap.size w1 V) := by unfold Hid; rw [hV]; go_grown
  have CV : Hid (V.heap[w1.heap.size]? = some (.cells #[.int .i64 d.R, .int .i64 d.S, .slice s1 d.L1.length m1, .slice s2 d.L2.length m2, .slice s3 d.L3.length m3] 48)) := by unfold Hid; rw [hV]; exact blk_new w1 _
  clear hV
  have BV : Hid (Below w.heap.size w V) := below_then BG.out BV0.out
  have AV := Hid.mk (blk_below A1.out BV0.out)
  have XV := Hid.mk (blk_below DD.out.x BV0.out)
  have OV1 := Hid.mk (ownsRow_below O1.out BV0.out)
  have OV2 := Hid.mk (ownsRow_below O2.out BV0.out)
  have OV3 := Hid.mk (ownsRow_below O3.out BV0.out)
  clear A1 O1 O2 O3 DD BG BV0
  have x0 := blk_cell XV.out 0
  have x1 := blk_cell XV.out 1
  simp only [List.getElem?_toArray, List.getElem?_cons_zero, List.getElem?_cons_succ] at x0 x1
  have y0 := blk_cell CV.out 0
  have y1 := blk_cell CV.out 1
  have y2 := blk_cell CV.out 2
  have y3 := blk_cell CV.out 3
  have y4 := blk_cell CV.out 4
  simp only [List.getElem?_toArray, List.getElem?_cons_zero, List.getElem?_cons_succ] at y0 y1 y2 y3 y4
  cases f with
  | true =>
    have hno := Hid.mk (decA_none (SS.out.2 rfl))
    have g0 := blk_cell AV.out 0
    have g1 := blk_cell AV.out 1
    have g2 := blk_cell AV.out 2
    have g3 := blk_cell AV.out 3
    have g4 := blk_cell AV.out 4
    have h0 := blk_unfrozen AV.out 0
    have h1 := blk_unfrozen AV.out 1
    have h2 := blk_unfrozen AV.out 2
    have h3 := blk_unfrozen AV.out 3
    have h4 := blk_unfrozen AV.out 4
    simp only [List.getElem?_toArray, List.getElem?_cons_zero, List.getElem?_cons_succ] at g0 g1 g2 g3 g4
    go_wp2
    obtain ⟨Z, hZ, RZ, QZ, -⟩ := put5 AV.out (.int .i64 0) (.int .i64 0) (.slice none 0 0) (.slice none 0 0) (.slice none 0 0)
    rw [hZ]
    have z0 := blk_cell RZ 0
    have z1 := blk_cell RZ 1
    have z2 := blk_cell RZ 2
    have z3 := blk_cell RZ 3
    have z4 := blk_cell RZ 4
    simp only [List.getElem?_toArray, List.getElem?_cons_zero, List.getElem?_cons_succ] at z0 z1 z2 z3 z4
    refine bodyPost_ret (v := .agg #[.int .i64 0, .int .i64 0, .slice none 0 0, .slice none 0 0, .slice none 0 0]) (by simp [results, Tryd.results26, go_sem, z0, z1, z2, z3, z4]; try rfl) rfl ?_
    exact DecP.zero hno.out rfl (BV.out.trans QZ)
  | false =>
    have hlive := Hid.mk (SS.out.1 rfl)
    obtain ⟨k, hk⟩ : ∃ k, k = b.length := ⟨_, rfl⟩
    rw [← hk] at x0
    have HK := Hid.mk hk
    clear hk
    by_cases hk0 : 0 < k
    · have hno := Hid.mk (decA_none (dead_rest hlive.out (by intro e; have := HK.out; rw [e] at this; simp at this; omega)))
      have g0 := blk_cell AV.out 0
      have g1 := blk_cell AV.out 1
      have g2 := blk_cell AV.out 2
      have g3 := blk_cell AV.out 3
      have g4 := blk_cell AV.out 4
      have h0 := blk_unfrozen AV.out 0
      have h1 := blk_unfrozen AV.out 1
      have h2 := blk_unfrozen AV.out 2
      have h3 := blk_unfrozen AV.out 3
      have h4 := blk_unfrozen AV.out 4
      simp only [List.getElem?_toArray, List.getElem?_cons_zero, List.getElem?_cons_succ] at g0 g1 g2 g3 g4
      go_wp2
      obtain ⟨Z, hZ, RZ, QZ, -⟩ := put5 AV.out (.int .i64 0) (.int .i64 0) (.slice none 0 0) (.slice none 0 0) (.slice none 0 0)
      rw [hZ]
      have z0 := blk_cell RZ 0
      have z1 := blk_cell RZ 1
      have z2 := blk_cell RZ 2
      have z3 := blk_cell RZ 3
      have z4 := blk_cell RZ 4
      simp only [List.getElem?_toArray, List.getElem?_cons_zero, List.getElem?_cons_succ] at z0 z1 z2 z3 z4
      refine bodyPost_ret (v := .agg #[.int .i64 0, .int .i64 0, .slice none 0 0, .slice none 0 0, .slice none 0 0]) (by simp [results, Tryd.results26, go_sem, z0, z1, z2, z3, z4]; try rfl) rfl ?_
      exact DecP.zero hno.out rfl (BV.out.trans QZ)
    · obtain rfl : k = 0 := by omega
      have hb0 : b = [] := List.eq_nil_of_length_eq_zero HK.out.symm
      subst hb0
      have hsh := Hid.mk (alive hlive.out l1 l2 l3)
      have hCo : Hid (CoAt V s1 s2 s3 d.co) := ⟨own_slice OV1.out, own_slice OV2.out, own_slice OV3.out⟩
      go_wp2_with fail
      clear x0 x1 y0 y1 y2 y3 y4
      refine (validI s1 s2 s3 m1 m2 m3 d.co V hCo.out (Nat.le_trans l1 (by omega)) (Nat.le_trans l2 (by omega)) (Nat.le_trans l3 (by omega)) (HT.out.below BV.out)).mono ?_
      rintro e w2 ⟨rfl, hb2⟩
      have B2 := Hid.mk (below_then BV.out hb2)
      have A2 := Hid.mk (blk_below AV.out hb2)
      have C2 := Hid.mk (blk_below CV.out hb2)
      have Q1 := Hid.mk (ownsRow_below OV1.out hb2)
      have Q2 := Hid.mk (ownsRow_below OV2.out hb2)
      have Q3 := Hid.mk (ownsRow_below OV3.out hb2)
      clear hb2 BV AV CV OV1 OV2 OV3 hCo
      cases hv : okCo d.co with
      | false =>
        have hno := Hid.mk (decA_bad hsh.out hv)
        have g0 := blk_cell A2.out 0
        have g1 := blk_cell A2.out 1
        have g2 := blk_cell A2.out 2
        have g3 := blk_cell A2.out 3
        have g4 := blk_cell A2.out 4
        have h0 := blk_unfrozen A2.out 0
        have h1 := blk_unfrozen A2.out 1
        have h2 := blk_unfrozen A2.out 2
        have h3 := blk_unfrozen A2.out 3
        have h4 := blk_unfrozen A2.out 4
        simp only [List.getElem?_toArray, List.getElem?_cons_zero, List.getElem?_cons_succ] at g0 g1 g2 g3 g4
        go_wp2
        obtain ⟨Z, hZ, RZ, QZ, -⟩ := put5 A2.out (.int .i64 0) (.int .i64 0) (.slice none 0 0) (.slice none 0 0) (.slice none 0 0)
        rw [hZ]
        have z0 := blk_cell RZ 0
        have z1 := blk_cell RZ 1
        have z2 := blk_cell RZ 2
        have z3 := blk_cell RZ 3
        have z4 := blk_cell RZ 4
        simp only [List.getElem?_toArray, List.getElem?_cons_zero, List.getElem?_cons_succ] at z0 z1 z2 z3 z4
        refine bodyPost_ret (v := .agg #[.int .i64 0, .int .i64 0, .slice none 0 0, .slice none 0 0, .slice none 0 0]) (by simp [results, Tryd.results26, go_sem, z0, z1, z2, z3, z4]; try rfl) rfl ?_
        exact DecP.zero hno.out rfl (B2.out.trans QZ)
      | true =>
        have hye := Hid.mk (decA_yes hsh.out hv)
        clear hv
        have y0 := blk_cell C2.out 0
        have y1 := blk_cell C2.out 1
        have y2 := blk_cell C2.out 2
        have y3 := blk_cell C2.out 3
        have y4 := blk_cell C2.out 4
        have g0 := blk_cell A2.out 0
        have g1 := blk_cell A2.out 1
        have g2 := blk_cell A2.out 2
        have g3 := blk_cell A2.out 3
        have g4 := blk_cell A2.out 4
        have h0 := blk_unfrozen A2.out 0
        have h1 := blk_unfrozen A2.out 1
        have h2 := blk_unfrozen A2.out 2
        have h3 := blk_unfrozen A2.out 3
        have h4 := blk_unfrozen A2.out 4
        simp only [List.getElem?_toArray, List.getElem?_cons_zero, List.getElem?_cons_succ] at g0 g1 g2 g3 g4 y0 y1 y2 y3 y4
        go_wp2
        obtain ⟨Z, hZ, RZ, QZ, OZ⟩ := put5 A2.out (.int .i64 d.R) (.int .i64 d.S) (.slice s1 d.L1.length m1) (.slice s2 d.L2.length m2) (.slice s3 d.L3.length m3)
        rw [hZ]
        have z0 := blk_cell RZ 0
        have z1 := blk_cell RZ 1
        have z2 := blk_cell RZ 2
        have z3 := blk_cell RZ 3
        have z4 := blk_cell RZ 4
        simp only [List.getElem?_toArray, List.getElem?_cons_zero, List.getElem?_cons_succ] at z0 z1 z2 z3 z4
        refine bodyPost_ret (v := .agg #[.int .i64 d.R, .int .i64 d.S, .slice s1 d.L1.length m1, .slice s2 d.L2.length m2, .slice s3 d.L3.length m3]) (by simp [results, Tryd.results26, go_sem, z0, z1, z2, z3, z4]; try rfl) rfl ?_
        have hp := PP.out
        refine DecP.mk s1 s2 s3 m1 m2 m3 ?_ B1 B2' ?_ ?_ ?_ ?_ ?_ ?_ ?_ ?_ ?_ (B2.out.trans QZ) <;> (try rw [hye.out])
        · exact ⟨Nat.le_trans hsz hp.1.1, hp.1.2⟩
        · exact hp.2.1
        · exact hp.2.2
        · exact (OZ _ _ _ _ _ _ (by decide) Q1.out).mono hsz
        · exact OZ _ _ _ _ _ _ (by decide) Q2.out
        · exact OZ _ _ _ _ _ _ (by decide) Q3.out
        · exact l1
        · exact l2
        · exact l3
end Go.Proofs.YtdhnjkcebaahcaaDoor.Dec
