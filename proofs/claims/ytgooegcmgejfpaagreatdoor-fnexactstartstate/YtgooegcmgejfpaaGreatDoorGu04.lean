import Derived.Test.YtgooegcmgejfpaaGreatDoorGu03
import Derived.Test.YtgooegcmgejfpaaGreatDoorGs45
namespace Go.Proofs.YtgooegcmgejfpaaGreatDoor.Mac
open Go Go.RowKit Go.Proofs.YtgooegcmgejfpaaGreatDoor.Mem Go.Proofs.YtgooegcmgejfpaaGreatDoor.Travel
open Go.Proofs.YtgooegcmgejfpaaGreatDoor.StV (tripB tripI)
open Go.Proofs.YtgooegcmgejfpaaGreatDoor.Valid (validB nodes inB)
set_option linter.unusedVariables false
set_option linter.unusedSimpArgs false
attribute [local go_sem ↓] Go.wp_at_zero Go.wp_at_succ

/-- What StartState answers. -/
def startB (C : Co) (I : In) (v : Int) : St :=
  if ValC.okCo C = true ∧ tripB I v = true then
    if 0 ≤ (startOut C I v.toNat).2.2 then bareS 0 (startOut C I v.toNat).2.2
    else ⟨0, -1, v, (plOf I v).o, 0, 0, I.nQ, C.R.toNat, (C.S * I.nQ).toNat, fun i => (zeros I.nQ).getD i 0, fun i => (startOut C I v.toNat).1.getD i 0, fun i => (startOut C I v.toNat).2.1.getD i 0⟩
  else bareS (-1) (-1)
theorem trip_bd {I : In} {v : Int} (h : tripB I v = true) : 0 ≤ v ∧ v < I.nV ∧ validB I = true := by
  unfold tripB at h
  simp [inB] at h
  exact ⟨h.1.1, by omega, h.2⟩
set_option maxHeartbeats 8000000 in
set_option maxRecDepth 100000 in
theorem startTopI (a1 a2 a3 b1 b2 b3 : Option Addr) (c1 c2 c3 d1 d2 d3 : Nat) (C : Co) (I : In) (v : Int) (w : World) (hC : CoAt w a1 a2 a3 C) (hI : InAt w b1 b2 b3 I) (k1 : C.n1 ≤ 1048576) (k2 : C.n2 ≤ 1048576) (k3 : C.n3 ≤ 1048576) (h1 : I.nV ≤ 1048576) (h2 : I.nQ ≤ 1048576) (h3 : I.nR ≤ 1048576) (hT : ValC.TabC w) :
    Calls Tryz.prog 12 #[.agg #[.int .i64 C.R, .int .i64 C.S, .slice a1 C.n1 c1, .slice a2 C.n2 c2, .slice a3 C.n3 c3], .agg #[.slice b1 I.nV d1, .slice b2 I.nQ d2, .slice b3 I.nR d3], .int .i64 v] w (StOwn w (startB C I v)) := by
  have HC := Hid.mk hC
  have HI := Hid.mk hI
  have HT := Hid.mk hT
  clear hC hI hT
  go_enter Tryz.func12, Tryz.ntmps12
  go_wp2_with fail
  refine (ValC.validI a1 a2 a3 c1 c2 c3 C _ (HC.out.below (by go_grown)) k1 k2 k3 (HT.out.below (by go_grown))).mono ?_
  rintro e w1 ⟨rfl, hb⟩
  have HB := Hid.mk (below_then (w := w) (by go_grown) hb)
  have A0 := Hid.mk (blk_below (blk_alloc (blk_alloc (blk_new w _) _) _) hb)
  have A1 := Hid.mk (blk_below (blk_alloc (blk_new1 w _ _) _) hb)
  have A2 := Hid.mk (blk_below (blk_new2 w _ _ _) hb)
  clear hb
  cases hok : ValC.okCo C with
  | false =>
    have HF : Hid (startB C I v = bareS (-1) (-1)) := by unfold Hid startB; rw [if_neg (by rw [hok]; simp)]
    go_wp2_with fail
    refine (deadI' _).mono ?_
    rename_i hKK
    rintro e wz ⟨rfl, hbz⟩
    refine hKK _ _ ?_
    clear hKK
    have AZ := Hid.mk (blk_below A2.out hbz)
    have BZ := Hid.mk (below_then HB.out hbz)
    clear hbz
    refine wpList_store_row rfl _ _ _ rfl (w.heap.size + 1 + 1) #[.int .i64 (-1), .int .i64 (-1), .int .i64 0, .int .i64 0, .int .i64 0, .int .i64 0, .slice none 0 0, .slice none 0 0, .slice none 0 0] rfl rfl _ _ AZ.out infoSt rfl (by simp [Value.oneCell']) ?_
    go_wp2
    refine bodyPost_ret (results_cell_row Tryz.results12 _ _ (w.heap.size + 1 + 1) _ _ _ _ (by simp [Act.put]) (row_self AZ.out _) Tryz.underlying34 rfl infoSt) rfl ?_
    rw [HF.out]
    exact stOwn_bare (row_below BZ.out (by omega) _)
  | true =>
    have x0 := blk_cell A1.out 0
    have x1 := blk_cell A1.out 1
    have x2 := blk_cell A1.out 2
    simp only [List.getElem?_toArray, List.getElem?_cons_zero, List.getElem?_cons_succ] at x0 x1 x2
    go_wp2_with fail
    refine (tripI b1 b2 b3 d1 d2 d3 I v _ (HI.out.below HB.out) h1 h2 h3).mono ?_
    rintro e w2 ⟨rfl, hb⟩
    have HB := Hid.mk (below_then HB.out hb)
    have A0 := Hid.mk (blk_below A0.out hb)
    have A1 := Hid.mk (blk_below A1.out hb)
    have A2 := Hid.mk (blk_below A2.out hb)
    clear hb x0 x1 x2
    cases htr : tripB I v with
    | false =>
      have HF : Hid (startB C I v = bareS (-1) (-1)) := by unfold Hid startB; rw [if_neg (by rw [htr]; simp)]
      go_wp2_with fail
      refine (deadI' _).mono ?_
      rename_i hKK
      rintro e wz ⟨rfl, hbz⟩
      refine hKK _ _ ?_
      clear hKK
      have AZ := Hid.mk (blk_below A2.out hbz)
      have BZ := Hid.mk (below_then HB.out hbz)
      clear hbz
      refine wpList_store_row rfl _ _ _ rfl (w.heap.size + 1 + 1) #[.int .i64 (-1), .int .i64 (-1), .int .i64 0, .int .i64 0, .int .i64 0, .int .i64 0, .slice none 0 0, .slice none 0 0, .slice none 0 0] rfl rfl _ _ AZ.out infoSt rfl (by simp [Value.oneCell']) ?_
      go_wp2
      refine bodyPost_ret (results_cell_row Tryz.results12 _ _ (w.heap.size + 1 + 1) _ _ _ _ (by simp [Act.put]) (row_self AZ.out _) Tryz.underlying34 rfl infoSt) rfl ?_
      rw [HF.out]
      exact stOwn_bare (row_below BZ.out (by omega) _)
    | true =>
      obtain ⟨hv0, hv1, hval⟩ := trip_bd htr
      obtain ⟨u, rfl⟩ : ∃ u : Nat, v = (u : Int) := ⟨v.toNat, by omega⟩
      have hu : u < I.nV := by omega
      have HOK := Hid.mk (And.intro hok htr)
      have HV := Hid.mk hval
      clear hok htr hval hv0 hv1
      have x0 := blk_cell A1.out 0
      have x1 := blk_cell A1.out 1
      have x2 := blk_cell A1.out 2
      have z0 := blk_cell A0.out 0
      have z1 := blk_cell A0.out 1
      have z2 := blk_cell A0.out 2
      have z3 := blk_cell A0.out 3
      have z4 := blk_cell A0.out 4
      simp only [List.getElem?_toArray, List.getElem?_cons_zero, List.getElem?_cons_succ] at x0 x1 x2 z0 z1 z2 z3 z4
      go_wp2_with fail
      refine (machineI a1 a2 a3 b1 b2 b3 c1 c2 c3 d1 d2 d3 C I (u : Int) _).mono ?_
      rintro e w3 ⟨mp, M, rfl, ea1, ea2, ea3, eb1, eb2, eb3, -, -, -, -, -, -, eC, eI, ev, hb, hM, hBx, -⟩
      have HB3 := Hid.mk (below_then HB.out hb)
      have A3 := Hid.mk (blk_below A2.out hb)
      have MA : Hid (Mach w3 M mp C I (u : Int)) := Hid.mk ⟨hM, ⟨_, hBx⟩, by rw [ea1, ea2, ea3]; exact HC.out.below HB3.out, by rw [eb1, eb2, eb3]; exact HI.out.below HB3.out, eC, eI, ev⟩
      clear hb hM hBx ea1 ea2 ea3 eb1 eb2 eb3 ev x0 x1 x2 z0 z1 z2 z3 z4
      go_wp2_with fail
      refine (startI w3 M mp C I u MA.out HOK.out.1 HV.out hu).mono ?_
      rintro e w5 ⟨F, rfl, hb5, hc⟩
      have B5 := Hid.mk (below_then HB3.out hb5)
      have A5 := Hid.mk (blk_below A3.out hb5)
      clear hb5
      subst eI
      subst eC
      rcases hc with ⟨hx1, f, f1, f2, f3, f4, f5, hx⟩ | ⟨hx1, M', qq, nx, hF⟩
      · have HF : Hid (startB mp.C mp.I (u : Int) = ⟨0, -1, (u : Int), (plOf mp.I u).o, 0, 0, mp.I.nQ, mp.C.R.toNat, (mp.C.S * mp.I.nQ).toNat, fun i => (zeros mp.I.nQ).getD i 0, fun i => (startOut mp.C mp.I u).1.getD i 0, fun i => (startOut mp.C mp.I u).2.1.getD i 0⟩) := by unfold Hid startB; rw [if_pos HOK.out, Int.toNat_natCast, if_neg (by omega)]
        clear hx1
        have HFF := Hid.mk hx.fra.ok.hF
        have HX := Hid.mk hx
        have HE := Hid.mk (And.intro f1 (And.intro f2 (And.intro f3 (And.intro f4 f5))))
        clear hx f1 f2 f3 f4 f5
        have l0 := blk_cell HFF.out 0
        have l1 := blk_cell HFF.out 1
        have l2 := blk_cell HFF.out 2
        have l3 := blk_cell HFF.out 3
        have l4 := blk_cell HFF.out 4
        have l5 := blk_cell HFF.out 5
        have l6 := blk_cell HFF.out 6
        have l7 := blk_cell HFF.out 7
        have l8 := blk_cell HFF.out 8
        have v0 := blk_cell A5.out 0
        have v1 := blk_cell A5.out 1
        have v2 := blk_cell A5.out 2
        have v3 := blk_cell A5.out 3
        have v4 := blk_cell A5.out 4
        have v5 := blk_cell A5.out 5
        have v6 := blk_cell A5.out 6
        have v7 := blk_cell A5.out 7
        have v8 := blk_cell A5.out 8
        have u0 := blk_unfrozen A5.out 0
        have u1 := blk_unfrozen A5.out 1
        have u2 := blk_unfrozen A5.out 2
        have u3 := blk_unfrozen A5.out 3
        have u4 := blk_unfrozen A5.out 4
        have u5 := blk_unfrozen A5.out 5
        have u6 := blk_unfrozen A5.out 6
        have u7 := blk_unfrozen A5.out 7
        have u8 := blk_unfrozen A5.out 8
        simp only [frC, failC, List.getElem?_toArray, List.getElem?_cons_zero, List.getElem?_cons_succ] at l0 v0 l1 v1 l2 v2 l3 v3 l4 v4 l5 v5 l6 v6 l7 v7 l8 v8
        go_wp2
        have AZ := (blk_set (blk_set (blk_set (blk_set (blk_set (blk_set (blk_set (blk_set (blk_set A5.out 0 (.int .i64 f.p)) 1 (.int .i64 f.u)) 2 (.int .i64 f.d)) 3 (.int .i64 f.t)) 4 (.int .i64 f.s)) 5 (.int .i64 f.l)) 6 (.slice f.aT f.nT f.cT)) 7 (.slice (some ⟨f.gR, 0, none⟩) f.nr f.cR)) 8 (.slice f.aS f.ns f.cS))
        simp only [List.setIfInBounds_toArray, List.set_cons_zero, List.set_cons_succ] at AZ
        refine bodyPost_ret (results_cell_row Tryz.results12 _ _ (w.heap.size + 1 + 1) _ _ _ _ (by simp [Act.put]) AZ Tryz.underlying34 rfl infoSt) rfl ?_
        rw [HF.out]
        have hA3 := blk_lt A3.out
        have hW := HB3.out.size
        have rwk : ∀ (g : Nat) (l : List Int), w3.heap.size ≤ g → Rw w5 g l → Rw _ g l := fun g l hg hr => (((((((((hr.other (p := ⟨w.heap.size + 1 + 1, 0, none⟩) (by show w.heap.size + 1 + 1 ≠ g; omega) (.int .i64 f.p)).other (p := ⟨w.heap.size + 1 + 1, 1, none⟩) (by show w.heap.size + 1 + 1 ≠ g; omega) (.int .i64 f.u)).other (p := ⟨w.heap.size + 1 + 1, 2, none⟩) (by show w.heap.size + 1 + 1 ≠ g; omega) (.int .i64 f.d)).other (p := ⟨w.heap.size + 1 + 1, 3, none⟩) (by show w.heap.size + 1 + 1 ≠ g; omega) (.int .i64 f.t)).other (p := ⟨w.heap.size + 1 + 1, 4, none⟩) (by show w.heap.size + 1 + 1 ≠ g; omega) (.int .i64 f.s)).other (p := ⟨w.heap.size + 1 + 1, 5, none⟩) (by show w.heap.size + 1 + 1 ≠ g; omega) (.int .i64 f.l)).other (p := ⟨w.heap.size + 1 + 1, 6, none⟩) (by show w.heap.size + 1 + 1 ≠ g; omega) (.slice f.aT f.nT f.cT)).other (p := ⟨w.heap.size + 1 + 1, 7, none⟩) (by show w.heap.size + 1 + 1 ≠ g; omega) (.slice (some ⟨f.gR, 0, none⟩) f.nr f.cR)).other (p := ⟨w.heap.size + 1 + 1, 8, none⟩) (by show w.heap.size + 1 + 1 ≠ g; omega) (.slice f.aS f.ns f.cS))
        have X0 := HX.out.fra
        have eN : f.nr = mp.C.R.toNat := by have := X0.nr; omega
        have eM : f.ns = (mp.C.S * mp.I.nQ).toNat := by have := X0.ns; omega
        have hlr : (startOut mp.C mp.I u).1.length = mp.C.R.toNat := by rw [← X0.ok.nr]; exact eN
        have hls : (startOut mp.C mp.I u).2.1.length = (mp.C.S * mp.I.nQ).toNat := by rw [← X0.ok.ns]; exact eM
        have eT : f.nT = mp.I.nQ := by rw [X0.nT, zeros_len]
        obtain ⟨gT, hgT, hrT, hne1, hne2, hlow⟩ : ∃ gT, (mp.I.nQ = 0 ∨ f.aT = some ⟨gT, 0, none⟩) ∧ Rw w5 gT (zeros mp.I.nQ) ∧ gT ≠ f.gR ∧ gT ≠ f.gS ∧ w3.heap.size ≤ gT := by
          rcases X0.st with h0 | ⟨g, e1, e2, e3, e4, e5, e6⟩
          · rw [zeros_len] at h0
            exact ⟨F, Or.inl h0, fun i hi => by rw [zeros_len] at hi; omega, X0.ok.fr, X0.ok.fs, X0.bF⟩
          · exact ⟨g, Or.inr e1, e6, e4, e5, e2⟩
        have bR := X0.bR
        have bS := X0.bS
        refine ⟨f.aT, some ⟨f.gR, 0, none⟩, f.aS, f.cT, f.cR, f.cS, gT, f.gR, f.gS, ?_, (((((((((B5.out.setCell (p := ⟨w.heap.size + 1 + 1, 0, none⟩) (by show w.heap.size ≤ w.heap.size + 1 + 1; omega) _).setCell (p := ⟨w.heap.size + 1 + 1, 1, none⟩) (by show w.heap.size ≤ w.heap.size + 1 + 1; omega) _).setCell (p := ⟨w.heap.size + 1 + 1, 2, none⟩) (by show w.heap.size ≤ w.heap.size + 1 + 1; omega) _).setCell (p := ⟨w.heap.size + 1 + 1, 3, none⟩) (by show w.heap.size ≤ w.heap.size + 1 + 1; omega) _).setCell (p := ⟨w.heap.size + 1 + 1, 4, none⟩) (by show w.heap.size ≤ w.heap.size + 1 + 1; omega) _).setCell (p := ⟨w.heap.size + 1 + 1, 5, none⟩) (by show w.heap.size ≤ w.heap.size + 1 + 1; omega) _).setCell (p := ⟨w.heap.size + 1 + 1, 6, none⟩) (by show w.heap.size ≤ w.heap.size + 1 + 1; omega) _).setCell (p := ⟨w.heap.size + 1 + 1, 7, none⟩) (by show w.heap.size ≤ w.heap.size + 1 + 1; omega) _).setCell (p := ⟨w.heap.size + 1 + 1, 8, none⟩) (by show w.heap.size ≤ w.heap.size + 1 + 1; omega) _), ⟨by omega, Nat.le_trans hW bR, Nat.le_trans hW bS, hne1, hne2, X0.ok.rs⟩, ⟨hgT, Or.inr rfl, ?_⟩, ?_, ?_, ?_⟩
        · show _ = Ending.returned (.agg #[.int .i64 0, .int .i64 (-1), .int .i64 (u : Int), .int .i64 (plOf mp.I u).o, .int .i64 0, .int .i64 0, .slice f.aT mp.I.nQ f.cT, .slice (some ⟨f.gR, 0, none⟩) mp.C.R.toNat f.cR, .slice f.aS (mp.C.S * mp.I.nQ).toNat f.cS])
          rw [HE.out.1, HE.out.2.1, HE.out.2.2.1, HE.out.2.2.2.1, HE.out.2.2.2.2, X0.u, eT, eN, eM]
        · have this : f.ns = 0 ∨ f.aS = some ⟨f.gS, 0, none⟩ := X0.ok.aS
          rw [eM] at this
          exact this
        · show Rw _ gT (lst mp.I.nQ (fun i => (zeros mp.I.nQ).getD i 0))
          rw [lst_getD (zeros_len _)]; exact rwk _ _ hlow hrT
        · show Rw _ f.gR (lst mp.C.R.toNat (fun i => (startOut mp.C mp.I u).1.getD i 0))
          rw [lst_getD hlr]; exact rwk _ _ bR X0.ok.hr
        · show Rw _ f.gS (lst (mp.C.S * mp.I.nQ).toNat (fun i => (startOut mp.C mp.I u).2.1.getD i 0))
          rw [lst_getD hls]; exact rwk _ _ bS X0.ok.hs
      · have HF : Hid (startB mp.C mp.I (u : Int) = bareS 0 (startOut mp.C mp.I u).2.2) := by unfold Hid startB; rw [if_pos HOK.out, Int.toNat_natCast, if_pos (by omega)]
        clear hx1
        have HFF := Hid.mk hF
        have l0 := blk_cell HFF.out 0
        have l1 := blk_cell HFF.out 1
        have l2 := blk_cell HFF.out 2
        have l3 := blk_cell HFF.out 3
        have l4 := blk_cell HFF.out 4
        have l5 := blk_cell HFF.out 5
        have l6 := blk_cell HFF.out 6
        have l7 := blk_cell HFF.out 7
        have l8 := blk_cell HFF.out 8
        have v0 := blk_cell A5.out 0
        have v1 := blk_cell A5.out 1
        have v2 := blk_cell A5.out 2
        have v3 := blk_cell A5.out 3
        have v4 := blk_cell A5.out 4
        have v5 := blk_cell A5.out 5
        have v6 := blk_cell A5.out 6
        have v7 := blk_cell A5.out 7
        have v8 := blk_cell A5.out 8
        have u0 := blk_unfrozen A5.out 0
        have u1 := blk_unfrozen A5.out 1
        have u2 := blk_unfrozen A5.out 2
        have u3 := blk_unfrozen A5.out 3
        have u4 := blk_unfrozen A5.out 4
        have u5 := blk_unfrozen A5.out 5
        have u6 := blk_unfrozen A5.out 6
        have u7 := blk_unfrozen A5.out 7
        have u8 := blk_unfrozen A5.out 8
        simp only [frC, failC, List.getElem?_toArray, List.getElem?_cons_zero, List.getElem?_cons_succ] at l0 v0 l1 v1 l2 v2 l3 v3 l4 v4 l5 v5 l6 v6 l7 v7 l8 v8
        go_wp2
        have AZ := (blk_set (blk_set (blk_set (blk_set (blk_set (blk_set (blk_set (blk_set (blk_set A5.out 0 (.int .i64 0)) 1 (.int .i64 (startOut mp.C mp.I u).2.2)) 2 (.int .i64 0)) 3 (.int .i64 0)) 4 (.int .i64 0)) 5 (.int .i64 0)) 6 (.slice none 0 0)) 7 (.slice none 0 0)) 8 (.slice none 0 0))
        simp only [List.setIfInBounds_toArray, List.set_cons_zero, List.set_cons_succ] at AZ
        refine bodyPost_ret (results_cell_row Tryz.results12 _ _ (w.heap.size + 1 + 1) _ _ _ _ (by simp [Act.put]) AZ Tryz.underlying34 rfl infoSt) rfl ?_
        rw [HF.out]
        exact stOwn_bare (((((((((B5.out.setCell (p := ⟨w.heap.size + 1 + 1, 0, none⟩) (by show w.heap.size ≤ w.heap.size + 1 + 1; omega) _).setCell (p := ⟨w.heap.size + 1 + 1, 1, none⟩) (by show w.heap.size ≤ w.heap.size + 1 + 1; omega) _).setCell (p := ⟨w.heap.size + 1 + 1, 2, none⟩) (by show w.heap.size ≤ w.heap.size + 1 + 1; omega) _).setCell (p := ⟨w.heap.size + 1 + 1, 3, none⟩) (by show w.heap.size ≤ w.heap.size + 1 + 1; omega) _).setCell (p := ⟨w.heap.size + 1 + 1, 4, none⟩) (by show w.heap.size ≤ w.heap.size + 1 + 1; omega) _).setCell (p := ⟨w.heap.size + 1 + 1, 5, none⟩) (by show w.heap.size ≤ w.heap.size + 1 + 1; omega) _).setCell (p := ⟨w.heap.size + 1 + 1, 6, none⟩) (by show w.heap.size ≤ w.heap.size + 1 + 1; omega) _).setCell (p := ⟨w.heap.size + 1 + 1, 7, none⟩) (by show w.heap.size ≤ w.heap.size + 1 + 1; omega) _).setCell (p := ⟨w.heap.size + 1 + 1, 8, none⟩) (by show w.heap.size ≤ w.heap.size + 1 + 1; omega) _)
end Go.Proofs.YtgooegcmgejfpaaGreatDoor.Mac
