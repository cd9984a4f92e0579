import Derived.Test.YtdhnjkcebaahcaaGreatDoorParseD
import Derived.Test.YtdhnjkcebaahcaaGreatDoorLineJ
import Derived.RegionTactic
import Derived.Deep.RegionHeld3
import Derived.Deep.CutRange
namespace Go.Proofs.YtdhnjkcebaahcaaGreatDoor.Parse
open Go Go.RowKit Go.Proofs.YtdhnjkcebaahcaaGreatDoor.Mem Go.Proofs.YtdhnjkcebaahcaaGreatDoor.Valid
set_option linter.unusedVariables false
set_option linter.unusedSimpArgs false
attribute [local go_sem ↓] Go.wp_at_zero Go.wp_at_succ

theorem below_then' {w W w5 : World} {B : Nat} (h : Below w.heap.size w W) (hb : Below B W.drew w5) (hB : w.heap.size ≤ B := by omega) : Below w.heap.size w w5 := h.trans ((Below.refl _ _).drew.trans (hb.mono hB))
theorem AccAt.set3n {B : Nat} {w : World} {v1 v2 v3 : Value} {s : Acc} {b : Nat} {C : Array Value} {fr : Nat × Nat} (h : AccAt B w v1 v2 v3 s) (hb : w.heap[b]? = some (.cells C 27 fr)) (x0 x1 x2 : Value) : AccAt B (((w.setCell ⟨b, 0, none⟩ x0).setCell ⟨b, 1, none⟩ x1).setCell ⟨b, 2, none⟩ x2) v1 v2 v3 s := by
  have h1 := h.set (o := 0) hb x0
  have b1 := blk_set hb 0 x0
  have h2 := h1.set (o := 1) b1 x1
  have b2 := blk_set b1 1 x1
  exact h2.set (o := 2) b2 x2
theorem AccAt.low {B B' : Nat} {w : World} {v1 v2 v3 : Value} {s : Acc} (h : AccAt B w v1 v2 v3 s) (hB : B' ≤ B) : AccAt B' w v1 v2 v3 s := ⟨Joins.ownsRow_le h.v hB, Joins.ownsRow_le h.q hB, Joins.ownsRow_le h.r hB⟩
theorem AccAt.lowTo {B : Nat} {w : World} {v1 v2 v3 : Value} {s : Acc} (h : AccAt B w v1 v2 v3 s) (A : Nat) (hB : A ≤ B) : AccAt A w v1 v2 v3 s := h.low hB
theorem AccAt.setR {B : Nat} {w : World} {v1 v2 v3 : Value} {s : Acc} {b o : Nat} {C : Array Value} {fr : Nat × Nat} (h : AccAt B w v1 v2 v3 s) (hb : w.heap[b]? = some (.cells C 29 fr)) (u : Value) : AccAt B (w.setCell ⟨b, o, none⟩ u) v1 v2 v3 s :=
  ⟨row_set h.v hb (by decide), row_set h.q hb (by decide), row_set h.r hb (by decide)⟩
theorem AccAt.set5 {B : Nat} {w : World} {v1 v2 v3 : Value} {s : Acc} {b : Nat} {C : Array Value} {fr : Nat × Nat} (h : AccAt B w v1 v2 v3 s) (hb : w.heap[b]? = some (.cells C 29 fr)) (x0 x1 x2 x3 x4 : Value) : AccAt B (((((w.setCell ⟨b, 0, none⟩ x0).setCell ⟨b, 1, none⟩ x1).setCell ⟨b, 2, none⟩ x2).setCell ⟨b, 3, none⟩ x3).setCell ⟨b, 4, none⟩ x4) v1 v2 v3 s := by
  have h1 := h.setR (o := 0) hb x0
  have b1 := blk_set hb 0 x0
  have h2 := h1.setR (o := 1) b1 x1
  have b2 := blk_set b1 1 x1
  have h3 := h2.setR (o := 2) b2 x2
  have b3 := blk_set b2 2 x2
  have h4 := h3.setR (o := 3) b3 x3
  have b4 := blk_set b3 3 x3
  exact h4.setR (o := 4) b4 x4
theorem keep1s {w : World} {g b o k1 : Nat} {u x : Value} (hne : g ≠ b) (h : w.cell? ⟨g, k1, none⟩ = some u) : (w.setCell ⟨b, o, none⟩ x).cell? ⟨g, k1, none⟩ = some u := by
  rw [World.cell?_setCell_other _ _ _ _ (fun e => by injection e with e1; exact hne e1.symm)]; exact h
theorem accNil (B : Nat) (w : World) : AccAt B w (.slice none 0 0) (.slice none 0 0) (.slice none 0 0) noAcc :=
  ⟨⟨by simp [noAcc], Or.inl ⟨rfl, rfl⟩⟩, ⟨by simp [noAcc], Or.inl ⟨rfl, rfl⟩⟩, ⟨by simp [noAcc], Or.inl ⟨rfl, rfl⟩⟩⟩

set_option maxHeartbeats 1600000 in
set_option maxRecDepth 100000 in
theorem parseS (a : Option Addr) (t : List UInt8) (n c : Nat) (w : World) (hn : n = t.length) (hr : Rd w a t) (hl : n ≤ 1048576) :
    Calls Tryz.prog 4 #[.slice a n c] w fun e w' => ∃ v1 v2 v3, e = .returned (.agg #[.int .i64 (parseT t).err, .int .i64 (parseT t).line, v1, v2, v3]) ∧ AccAt w.heap.size w' v1 v2 v3 (parseT t).acc ∧ Below w.heap.size w w' := by
  have HN := Hid.mk hn
  have HR := Hid.mk hr
  clear hn hr
  by_cases hlong : 300000 < n
  · have HV : Hid (parseT t = ⟨1, 0, noAcc⟩) := by unfold Hid parseT; rw [if_pos (by rw [← HN.out]; exact hlong)]
    have hl' : (300000 : Int) < (n : Int) := by omega
    go_enter Tryz.func4, Tryz.ntmps4
    go_wp2
    go_returns
    rw [HV.out]
    exact ⟨_, _, _, rfl, accNil _ _, by go_grown⟩
  · have HV : Hid (parseT t = parseL (split 10 t) 0 noAcc) := by unfold Hid parseT; rw [if_neg (by rw [← HN.out]; exact hlong)]
    have hl' : ¬ (300000 : Int) < (n : Int) := by omega
    go_enter Tryz.func4, Tryz.ntmps4
    go_wp2_with fail
    refine (splitS a t n c 10 10 _ HN.out rfl (HR.out.below (below_alloc' (Below.refl _ _) _)) (by omega)).mono ?_
    rintro e w1 ⟨fp, fc, rfl, hfl, hb1⟩
    have RX := Hid.mk (blk_below (blk_new w _) hb1)
    have HB1 := Hid.mk (below_then (w := w) (below_alloc' (Below.refl _ _) _) hb1)
    have m0 := split_pos 10 t
    have m1 := split_len 10 t
    rw [← HN.out] at m1
    have HEach : Hid (∀ k, ((split 10 t).getD k []).length ≤ 300000) := fun k => Nat.le_trans (split_each 10 t k) (by rw [← HN.out]; omega)
    obtain ⟨L, hL⟩ : ∃ L, L = split 10 t := ⟨_, rfl⟩
    rw [← hL] at hfl HV m0 m1 HEach ⊢
    obtain ⟨M, hM⟩ : ∃ M, M = L.length := ⟨_, rfl⟩
    rw [← hM] at m0 m1 ⊢
    have HL := Hid.mk hfl
    have HM := Hid.mk hM
    clear hfl hL hM hb1
    obtain ⟨g, pz, nz, cz, fz, rfl, xz, -, -, -⟩ := flds_at HL.out (k := 0) (by rw [← HM.out]; exact m0)
    have hgl : g < w1.heap.size := lt_of_cell xz
    have hgb : g ≠ w1.heap.size := by omega
    clear xz
    go_wp2
    go_loopw [5] (fun i wr => ∃ k : Nat, k < M ∧ i = .int .i64 k ∧ ∃ a1 a2 a3 N1 N2 N3 c1 c2 c3 s, Hid (N1 = s.V.length) ∧ Hid (N2 = s.Q.length) ∧ Hid (N3 = s.R.length) ∧ N1 ≤ 64 ∧ N2 ≤ 1000 ∧ N3 ≤ 4000 ∧ Hid (wr.heap[w1.heap.size]? = some (.cells #[.slice a1 N1 c1, .slice a2 N2 c2, .slice a3 N3 c3] 27)) ∧ Hid (AccAt (w1.heap.size + 1) wr (.slice a1 N1 c1) (.slice a2 N2 c2) (.slice a3 N3 c3) s) ∧ Hid (parseT t = parseL (L.drop k) k s) ∧ Hid (Below w1.heap.size w1 wr) ∧ w1.heap.size + 1 ≤ wr.heap.size) (fun i _ => M - (intOf i).toNat)
    case atStart => exact ⟨0, m0, rfl, none, none, none, 0, 0, 0, 0, 0, 0, noAcc, rfl, rfl, rfl, by omega, by omega, by omega, blk_new _ _, accNil _ _, HV, below_alloc' (Below.refl _ _) _, by simp⟩
    case round =>
      obtain ⟨k, hk, rfl, a1, a2, a3, N1, N2, N3, c1, c2, c3, s, H1, H2, H3, b1, b2, b3, BX, HA, HP, hb, hBs⟩ := hrel
      have RX1 := RX
      have RX := Hid.mk (blk_below RX.out hb.out)
      have HBr := Hid.mk (below_then HB1.out hb.out)
      have hww := HB1.out.size
      have hkl : k < L.length := by rw [← HM.out]; exact hk
      obtain ⟨g', pk, nk, ck, fk, ej, xk, lk, sk, rk⟩ := flds_at (HL.out.below hb.out) (k := k) hkl
      obtain rfl : g = g' := by injection ej with ej; injection ej
      clear ej
      have hnk : nk ≤ 300000 := by rw [sk.1, ← sk.2]; exact HEach.out k
      have Sk := Hid.mk sk.1
      have Ek := Hid.mk sk.2
      have Rk := Hid.mk rk
      clear sk rk
      have k0 : (0 : Int) ≤ (k : Int) := by omega
      have k1 : (k : Int) < (M : Int) := by omega
      have x0 := blk_cell BX.out 0
      have x1 := blk_cell BX.out 1
      have x2 := blk_cell BX.out 2
      simp only [List.getElem?_toArray, List.getElem?_cons_zero, List.getElem?_cons_succ] at x0 x1 x2
      by_cases hlast : k + 1 = M
      · have hl1 : ((k : Int) == (M : Int) - 1) = true := by simp; omega
        have HPl : Hid (parseT t = if 0 < nk then ⟨2, (k : Int) + 1, noAcc⟩ else ⟨0, 0, s⟩) := by
          unfold Hid
          rw [HP.out, parseL_last (by rw [← HM.out]; exact hlast), Ek.out, ← Sk.out]
        have hlH := Hid.mk hlast
        clear hlast
        by_cases hpos : 0 < nk
        · have HQ : Hid (parseT t = ⟨2, (k : Int) + 1, noAcc⟩) := by unfold Hid; rw [HPl.out, if_pos hpos]
          have hp1 : (0 : Int) < (nk : Int) := by omega
          have y0 := blk_cell RX.out 0
          have z0 := blk_unfrozen RX.out 0
          have y1 := blk_cell RX.out 1
          have z1 := blk_unfrozen RX.out 1
          have y2 := blk_cell RX.out 2
          have z2 := blk_unfrozen RX.out 2
          have y3 := blk_cell RX.out 3
          have z3 := blk_unfrozen RX.out 3
          have y4 := blk_cell RX.out 4
          have z4 := blk_unfrozen RX.out 4
          simp only [List.getElem?_toArray, List.getElem?_cons_zero, List.getElem?_cons_succ] at y0 y1 y2 y3 y4
          have HBZ := Hid.mk (set5_below (w := w) (b := w.heap.size) (Nat.le_refl _) HBr.out (.int .i64 2) (.int .i64 ((k : Int) + 1)) (.slice none 0 0) (.slice none 0 0) (.slice none 0 0))
          have HAZ := Hid.mk (accNil w.heap.size (((((wr.setCell ⟨w.heap.size, 0, none⟩ (.int .i64 2)).setCell ⟨w.heap.size, 1, none⟩ (.int .i64 ((k : Int) + 1))).setCell ⟨w.heap.size, 2, none⟩ (.slice none 0 0)).setCell ⟨w.heap.size, 3, none⟩ (.slice none 0 0)).setCell ⟨w.heap.size, 4, none⟩ (.slice none 0 0)))
          go_wp2
          obtain ⟨q0, q1, q2, q3, q4⟩ := set5 y0 y1 y2 y3 y4 (.int .i64 2) (.int .i64 ((k : Int) + 1)) (.slice none 0 0) (.slice none 0 0) (.slice none 0 0)
          obtain ⟨Z, hZ⟩ : ∃ Z, Z = (((((wr.setCell ⟨w.heap.size, 0, none⟩ (.int .i64 2)).setCell ⟨w.heap.size, 1, none⟩ (.int .i64 ((k : Int) + 1))).setCell ⟨w.heap.size, 2, none⟩ (.slice none 0 0)).setCell ⟨w.heap.size, 3, none⟩ (.slice none 0 0)).setCell ⟨w.heap.size, 4, none⟩ (.slice none 0 0)) := ⟨_, rfl⟩
          rw [← hZ] at q0 q1 q2 q3 q4 HBZ HAZ ⊢
          clear hZ
          refine bodyPost_ret (by simp [results, Tryz.results4, go_sem, q0, q1, q2, q3, q4]; try rfl) rfl ?_
          rw [HQ.out]
          exact ⟨_, _, _, rfl, HAZ.out, HBZ.out⟩
        · have HQ : Hid (parseT t = ⟨0, 0, s⟩) := by unfold Hid; rw [HPl.out, if_neg hpos]
          have hp1 : ¬ (0 : Int) < (nk : Int) := by omega
          have hp2 : ¬ 0 < nk := hpos
          have y0 := blk_cell RX.out 0
          have z0 := blk_unfrozen RX.out 0
          have y1 := blk_cell RX.out 1
          have z1 := blk_unfrozen RX.out 1
          have y2 := blk_cell RX.out 2
          have z2 := blk_unfrozen RX.out 2
          have y3 := blk_cell RX.out 3
          have z3 := blk_unfrozen RX.out 3
          have y4 := blk_cell RX.out 4
          have z4 := blk_unfrozen RX.out 4
          simp only [List.getElem?_toArray, List.getElem?_cons_zero, List.getElem?_cons_succ] at y0 y1 y2 y3 y4
          have HBZ := Hid.mk (set5_below (w := w) (b := w.heap.size) (Nat.le_refl _) HBr.out (.int .i64 0) (.int .i64 0) (.slice a1 N1 c1) (.slice a2 N2 c2) (.slice a3 N3 c3))
          have HAZ := Hid.mk ((HA.out.lowTo w.heap.size (by omega)).set5 RX.out (.int .i64 0) (.int .i64 0) (.slice a1 N1 c1) (.slice a2 N2 c2) (.slice a3 N3 c3))
          go_wp2
          obtain ⟨q0, q1, q2, q3, q4⟩ := set5 y0 y1 y2 y3 y4 (.int .i64 0) (.int .i64 0) (.slice a1 N1 c1) (.slice a2 N2 c2) (.slice a3 N3 c3)
          obtain ⟨Z, hZ⟩ : ∃ Z, Z = (((((wr.setCell ⟨w.heap.size, 0, none⟩ (.int .i64 0)).setCell ⟨w.heap.size, 1, none⟩ (.int .i64 0)).setCell ⟨w.heap.size, 2, none⟩ (.slice a1 N1 c1)).setCell ⟨w.heap.size, 3, none⟩ (.slice a2 N2 c2)).setCell ⟨w.heap.size, 4, none⟩ (.slice a3 N3 c3)) := ⟨_, rfl⟩
          rw [← hZ] at q0 q1 q2 q3 q4 HBZ HAZ ⊢
          clear hZ
          refine bodyPost_ret (by simp [results, Tryz.results4, go_sem, q0, q1, q2, q3, q4]; try rfl) rfl ?_
          rw [HQ.out]
          exact ⟨_, _, _, rfl, HAZ.out, HBZ.out⟩
      · have hl1 : ((k : Int) == (M : Int) - 1) = false := by simp; omega
        have hk1 : k + 1 < M := by omega
        have HPs : Hid (parseT t = if (lineF s fk).1 = 0 then parseL (L.drop (k + 1)) (k + 1) (lineF s fk).2 else ⟨(lineF s fk).1, (k : Int) + 1, noAcc⟩) := by
          unfold Hid
          rw [HP.out, parseL_step (by rw [← HM.out]; exact hk1), Ek.out]
        have HBD := Hid.mk (lineF_bounds s fk (by rw [← H1.out]; exact b1) (by rw [← H2.out]; exact b2) (by rw [← H3.out]; exact b3))
        go_upto_region 13 with fail
        go_cut [6] from 36 to 44 (fun s6 wx => s6 = .int .i64 (lineF s fk).1 ∧ ∃ d1 d2 d3 e1 e2 e3, wx.heap[w1.heap.size]? = some (.cells #[.slice d1 (lineF s fk).2.V.length e1, .slice d2 (lineF s fk).2.Q.length e2, .slice d3 (lineF s fk).2.R.length e3] 27) ∧ AccAt (w1.heap.size + 1) wx (.slice d1 (lineF s fk).2.V.length e1) (.slice d2 (lineF s fk).2.Q.length e2) (.slice d3 (lineF s fk).2.R.length e3) (lineF s fk).2 ∧ Below w1.heap.size w1 wx ∧ w1.heap.size + 1 ≤ wx.heap.size)
        case first =>
          refine wp_region_held_drew (S := (fun w' => w'.cell? ⟨g, k, none⟩ = some (.slice pk nk ck))) (by kernel_rfl) ?_ (fun hHeld => ?_)
          · exact xk
          refine wpAnyH_take (i := 1) (v := ?_) rfl (by kernel_rfl) (by kernel_rfl) (by kernel_rfl) (fun _ _ _ h => h) (Or.inl ⟨by rfl, ?_⟩) (by assumption) ?_
          rotate_left
          · intro w hSw; (try dsimp only at hSw); go_simp; (try with_reducible rfl)
          rotate_left
          simp only [Act.put, List.setIfInBounds_toArray, List.set_cons_zero, List.set_cons_succ, List.getElem_toArray, List.getElem_cons_zero, List.getElem_cons_succ]
          refine wpAnyH_take (i := 2) (v := ?_) rfl (by kernel_rfl) (by kernel_rfl) (by kernel_rfl) (fun _ _ _ h => h) (Or.inl ⟨by rfl, ?_⟩) (by assumption) ?_
          rotate_left
          · intro w hSw; (try dsimp only at hSw); go_simp; (try with_reducible rfl)
          rotate_left
          simp only [Act.put, List.setIfInBounds_toArray, List.set_cons_zero, List.set_cons_succ, List.getElem_toArray, List.getElem_cons_zero, List.getElem_cons_succ]
          refine wpAnyH_take (i := 3) (v := ?_) rfl (by kernel_rfl) (by kernel_rfl) (by kernel_rfl) (fun _ _ _ h => h) (Or.inl ⟨by rfl, ?_⟩) (by assumption) ?_
          rotate_left
          · intro w hSw; (try dsimp only at hSw); go_simp; (try with_reducible rfl)
          rotate_left
          simp only [Act.put, List.setIfInBounds_toArray, List.set_cons_zero, List.set_cons_succ, List.getElem_toArray, List.getElem_cons_zero, List.getElem_cons_succ]
          refine wpAnyH_take (i := 4) (v := ?_) rfl (by kernel_rfl) (by kernel_rfl) (by kernel_rfl) (fun _ _ _ h => h) (Or.inl ⟨by rfl, ?_⟩) (by assumption) ?_
          rotate_left
          · intro w hSw; (try dsimp only at hSw); go_simp; (try with_reducible rfl)
          rotate_left
          simp only [Act.put, List.setIfInBounds_toArray, List.set_cons_zero, List.set_cons_succ, List.getElem_toArray, List.getElem_cons_zero, List.getElem_cons_succ]
          refine wpAnyH_ready (rs := [0]) (by kernel_rfl) (by simp) ?_
          refine AllReadyH.cons rfl (fun K hK => ?_) ?_
          · go_simp
            refine hK.out _ _ ?_ (fun hHeld => ?_)
            · (try dsimp only); exact hHeld
            clear hK K
            (try simp only [Act.put, List.setIfInBounds_toArray, List.set_cons_zero, List.set_cons_succ, List.getElem_toArray, List.getElem_cons_zero, List.getElem_cons_succ])
            refine wpAnyH_ready (rs := [5]) (by kernel_rfl) (by simp) ?_
            refine AllReadyH.cons rfl (fun K hK => ?_) ?_
            · go_simp
              refine (lineS (w1.heap.size + 1) a1 a2 a3 N1 N2 N3 c1 c2 c3 s pk fk nk ck _ H1.out H2.out H3.out (HA.out.below (Below.refl _ _).drew) hBs Sk.out (Rk.out.below (Below.refl _ _).drew) hnk b1 b2 b3).mono ?_
              rintro e w5 ⟨u1, u2, u3, rfl, hA5, hb5⟩
              obtain ⟨d1, e1, rfl, -⟩ := row_shape hA5.v
              obtain ⟨d2, e2, rfl, -⟩ := row_shape hA5.q
              obtain ⟨d3, e3, rfl, -⟩ := row_shape hA5.r
              go_wp2_with fail
              refine hK.out _ _ ?_ (fun hHeld => ?_)
              · (try dsimp only); exact (hb5.cell (p := ⟨g, k, none⟩) (Nat.lt_succ_of_lt hgl)).trans hHeld
              clear hK K
              (try simp only [Act.put, List.setIfInBounds_toArray, List.set_cons_zero, List.set_cons_succ, List.getElem_toArray, List.getElem_cons_zero, List.getElem_cons_succ])
              refine wpAnyH_ready (rs := [6]) (by kernel_rfl) (by simp) ?_
              refine AllReadyH.cons rfl (fun K hK => ?_) ?_
              · go_simp
                refine hK.out _ _ ?_ (fun hHeld => ?_)
                · (try dsimp only); exact hHeld
                clear hK K
                (try simp only [Act.put, List.setIfInBounds_toArray, List.set_cons_zero, List.set_cons_succ, List.getElem_toArray, List.getElem_cons_zero, List.getElem_cons_succ])
                refine wpAnyH_ready (rs := [7, 8]) (by kernel_rfl) (by simp) ?_
                refine AllReadyH.cons rfl (fun K hK => ?_) ?_
                · go_simp
                  refine hK.out _ _ ?_ (fun hHeld => ?_)
                  · (try dsimp only); exact hHeld
                  clear hK K
                  (try simp only [Act.put, List.setIfInBounds_toArray, List.set_cons_zero, List.set_cons_succ, List.getElem_toArray, List.getElem_cons_zero, List.getElem_cons_succ])
                  refine wpAnyH_ready (rs := [8, 9]) (by kernel_rfl) (by simp) ?_
                  refine AllReadyH.cons rfl (fun K hK => ?_) ?_
                  · go_simp
                    refine hK.out _ _ ?_ (fun hHeld => ?_)
                    · (try dsimp only); exact hHeld
                    clear hK K
                    (try simp only [Act.put, List.setIfInBounds_toArray, List.set_cons_zero, List.set_cons_succ, List.getElem_toArray, List.getElem_cons_zero, List.getElem_cons_succ])
                    refine wpAnyH_ready (rs := [9]) (by kernel_rfl) (by simp) ?_
                    refine AllReadyH.cons rfl (fun K hK => ?_) ?_
                    · go_simp
                      refine hK.out _ _ ?_ (fun hHeld => ?_)
                      · (try dsimp only); exact hHeld
                      clear hK K
                      (try simp only [Act.put, List.setIfInBounds_toArray, List.set_cons_zero, List.set_cons_succ, List.getElem_toArray, List.getElem_cons_zero, List.getElem_cons_succ])
                      refine wpAnyH_ready (rs := [10]) (by kernel_rfl) (by simp) ?_
                      refine AllReadyH.cons rfl (fun K hK => ?_) ?_
                      · have BX5 := (hb5.block w1.heap.size (Nat.lt_succ_self _)).trans BX.out
                        have t0 := blk_cell BX5 0
                        have t1 := blk_cell BX5 1
                        have t2 := blk_cell BX5 2
                        have f0 := blk_unfrozen BX5 0
                        have f1 := blk_unfrozen BX5 1
                        have f2 := blk_unfrozen BX5 2
                        simp only [List.getElem?_toArray, List.getElem?_cons_zero, List.getElem?_cons_succ] at t0 t1 t2
                        go_simp
                        refine hK.out _ _ ?_ (fun hHeld => ?_)
                        · (try dsimp only); exact keep1s hgb (keep1s hgb (keep1s hgb hHeld))
                        clear hK K
                        (try simp only [Act.put, List.setIfInBounds_toArray, List.set_cons_zero, List.set_cons_succ, List.getElem_toArray, List.getElem_cons_zero, List.getElem_cons_succ])
                        refine wpAnyH_done (by kernel_rfl) ?_ _
                        have hbz := Below.setCells' w1.heap.size (Nat.le_refl _) [.slice d1 (lineF s fk).2.V.length e1, .slice d2 (lineF s fk).2.Q.length e2, .slice d3 (lineF s fk).2.R.length e3] 0 _ (below_then' hb.out hb5)
                        have hsz : w1.heap.size + 1 ≤ (w5.setCells w1.heap.size 0 [.slice d1 (lineF s fk).2.V.length e1, .slice d2 (lineF s fk).2.Q.length e2, .slice d3 (lineF s fk).2.R.length e3]).heap.size := by rw [size_setCells]; exact Nat.le_trans hBs hb5.size
                        have HZ := sets_blk BX5 [.slice d1 (lineF s fk).2.V.length e1, .slice d2 (lineF s fk).2.Q.length e2, .slice d3 (lineF s fk).2.R.length e3] rfl
                        have HAz := hA5.set3n BX5 (.slice d1 (lineF s fk).2.V.length e1) (.slice d2 (lineF s fk).2.Q.length e2) (.slice d3 (lineF s fk).2.R.length e3)
                        go_wp2_with fail
                        go_meet
                        exact ⟨rfl, d1, d2, d3, e1, e2, e3, HZ, HAz, hbz, hsz⟩
                      exact AllReadyH.nil
                    exact AllReadyH.nil
                  refine AllReadyH.cons rfl (fun K hK => ?_) ?_
                  · go_simp
                    refine hK.out _ _ ?_ (fun hHeld => ?_)
                    · (try dsimp only); exact hHeld
                    clear hK K
                    (try simp only [Act.put, List.setIfInBounds_toArray, List.set_cons_zero, List.set_cons_succ, List.getElem_toArray, List.getElem_cons_zero, List.getElem_cons_succ])
                    refine wpAnyH_ready (rs := [8]) (by kernel_rfl) (by simp) ?_
                    refine AllReadyH.cons rfl (fun K hK => ?_) ?_
                    · go_simp
                      refine hK.out _ _ ?_ (fun hHeld => ?_)
                      · (try dsimp only); exact hHeld
                      clear hK K
                      (try simp only [Act.put, List.setIfInBounds_toArray, List.set_cons_zero, List.set_cons_succ, List.getElem_toArray, List.getElem_cons_zero, List.getElem_cons_succ])
                      refine wpAnyH_ready (rs := [10]) (by kernel_rfl) (by simp) ?_
                      refine AllReadyH.cons rfl (fun K hK => ?_) ?_
                      · have BX5 := (hb5.block w1.heap.size (Nat.lt_succ_self _)).trans BX.out
                        have t0 := blk_cell BX5 0
                        have t1 := blk_cell BX5 1
                        have t2 := blk_cell BX5 2
                        have f0 := blk_unfrozen BX5 0
                        have f1 := blk_unfrozen BX5 1
                        have f2 := blk_unfrozen BX5 2
                        simp only [List.getElem?_toArray, List.getElem?_cons_zero, List.getElem?_cons_succ] at t0 t1 t2
                        go_simp
                        refine hK.out _ _ ?_ (fun hHeld => ?_)
                        · (try dsimp only); exact keep1s hgb (keep1s hgb (keep1s hgb hHeld))
                        clear hK K
                        (try simp only [Act.put, List.setIfInBounds_toArray, List.set_cons_zero, List.set_cons_succ, List.getElem_toArray, List.getElem_cons_zero, List.getElem_cons_succ])
                        refine wpAnyH_done (by kernel_rfl) ?_ _
                        have hbz := Below.setCells' w1.heap.size (Nat.le_refl _) [.slice d1 (lineF s fk).2.V.length e1, .slice d2 (lineF s fk).2.Q.length e2, .slice d3 (lineF s fk).2.R.length e3] 0 _ (below_then' hb.out hb5)
                        have hsz : w1.heap.size + 1 ≤ (w5.setCells w1.heap.size 0 [.slice d1 (lineF s fk).2.V.length e1, .slice d2 (lineF s fk).2.Q.length e2, .slice d3 (lineF s fk).2.R.length e3]).heap.size := by rw [size_setCells]; exact Nat.le_trans hBs hb5.size
                        have HZ := sets_blk BX5 [.slice d1 (lineF s fk).2.V.length e1, .slice d2 (lineF s fk).2.Q.length e2, .slice d3 (lineF s fk).2.R.length e3] rfl
                        have HAz := hA5.set3n BX5 (.slice d1 (lineF s fk).2.V.length e1) (.slice d2 (lineF s fk).2.Q.length e2) (.slice d3 (lineF s fk).2.R.length e3)
                        go_wp2_with fail
                        go_meet
                        exact ⟨rfl, d1, d2, d3, e1, e2, e3, HZ, HAz, hbz, hsz⟩
                      exact AllReadyH.nil
                    exact AllReadyH.nil
                  exact AllReadyH.nil
                refine AllReadyH.cons rfl (fun K hK => ?_) ?_
                · go_simp
                  refine hK.out _ _ ?_ (fun hHeld => ?_)
                  · (try dsimp only); exact hHeld
                  clear hK K
                  (try simp only [Act.put, List.setIfInBounds_toArray, List.set_cons_zero, List.set_cons_succ, List.getElem_toArray, List.getElem_cons_zero, List.getElem_cons_succ])
                  refine wpAnyH_ready (rs := [7]) (by kernel_rfl) (by simp) ?_
                  refine AllReadyH.cons rfl (fun K hK => ?_) ?_
                  · go_simp
                    refine hK.out _ _ ?_ (fun hHeld => ?_)
                    · (try dsimp only); exact hHeld
                    clear hK K
                    (try simp only [Act.put, List.setIfInBounds_toArray, List.set_cons_zero, List.set_cons_succ, List.getElem_toArray, List.getElem_cons_zero, List.getElem_cons_succ])
                    refine wpAnyH_ready (rs := [9]) (by kernel_rfl) (by simp) ?_
                    refine AllReadyH.cons rfl (fun K hK => ?_) ?_
                    · go_simp
                      refine hK.out _ _ ?_ (fun hHeld => ?_)
                      · (try dsimp only); exact hHeld
                      clear hK K
                      (try simp only [Act.put, List.setIfInBounds_toArray, List.set_cons_zero, List.set_cons_succ, List.getElem_toArray, List.getElem_cons_zero, List.getElem_cons_succ])
                      refine wpAnyH_ready (rs := [10]) (by kernel_rfl) (by simp) ?_
                      refine AllReadyH.cons rfl (fun K hK => ?_) ?_
                      · have BX5 := (hb5.block w1.heap.size (Nat.lt_succ_self _)).trans BX.out
                        have t0 := blk_cell BX5 0
                        have t1 := blk_cell BX5 1
                        have t2 := blk_cell BX5 2
                        have f0 := blk_unfrozen BX5 0
                        have f1 := blk_unfrozen BX5 1
                        have f2 := blk_unfrozen BX5 2
                        simp only [List.getElem?_toArray, List.getElem?_cons_zero, List.getElem?_cons_succ] at t0 t1 t2
                        go_simp
                        refine hK.out _ _ ?_ (fun hHeld => ?_)
                        · (try dsimp only); exact keep1s hgb (keep1s hgb (keep1s hgb hHeld))
                        clear hK K
                        (try simp only [Act.put, List.setIfInBounds_toArray, List.set_cons_zero, List.set_cons_succ, List.getElem_toArray, List.getElem_cons_zero, List.getElem_cons_succ])
                        refine wpAnyH_done (by kernel_rfl) ?_ _
                        have hbz := Below.setCells' w1.heap.size (Nat.le_refl _) [.slice d1 (lineF s fk).2.V.length e1, .slice d2 (lineF s fk).2.Q.length e2, .slice d3 (lineF s fk).2.R.length e3] 0 _ (below_then' hb.out hb5)
                        have hsz : w1.heap.size + 1 ≤ (w5.setCells w1.heap.size 0 [.slice d1 (lineF s fk).2.V.length e1, .slice d2 (lineF s fk).2.Q.length e2, .slice d3 (lineF s fk).2.R.length e3]).heap.size := by rw [size_setCells]; exact Nat.le_trans hBs hb5.size
                        have HZ := sets_blk BX5 [.slice d1 (lineF s fk).2.V.length e1, .slice d2 (lineF s fk).2.Q.length e2, .slice d3 (lineF s fk).2.R.length e3] rfl
                        have HAz := hA5.set3n BX5 (.slice d1 (lineF s fk).2.V.length e1) (.slice d2 (lineF s fk).2.Q.length e2) (.slice d3 (lineF s fk).2.R.length e3)
                        go_wp2_with fail
                        go_meet
                        exact ⟨rfl, d1, d2, d3, e1, e2, e3, HZ, HAz, hbz, hsz⟩
                      exact AllReadyH.nil
                    exact AllReadyH.nil
                  exact AllReadyH.nil
                exact AllReadyH.nil
              exact AllReadyH.nil
            exact AllReadyH.nil
          exact AllReadyH.nil

        case rest =>
          obtain ⟨hs6, d1, d2, d3, e1, e2, e3, hbx, hA, hbw, hsw⟩ := hcut
          rw [hs6]
          clear hs6 x0 x1 x2
          have BXc := Hid.mk hbx
          have HAc := Hid.mk hA
          have RX := Hid.mk (blk_below RX1.out hbw)
          have HBr := Hid.mk (below_then HB1.out hbw)
          have HBw := Hid.mk hbw
          clear hbx hA hbw
          by_cases he : (lineF s fk).1 = 0
          · have HQ : Hid (parseT t = parseL (L.drop (k + 1)) (k + 1) (lineF s fk).2) := by unfold Hid; rw [HPs.out, if_pos he]
            rw [he]
            go_wp2
            exact ⟨⟨k + 1, hk1, by go_num, d1, d2, d3, _, _, _, e1, e2, e3, _, rfl, rfl, rfl, HBD.out.1, HBD.out.2.1, HBD.out.2.2, BXc, HAc, HQ, HBw, hsw⟩, by simp [intOf]; omega⟩
          · have HQ : Hid (parseT t = ⟨(lineF s fk).1, (k : Int) + 1, noAcc⟩) := by unfold Hid; rw [HPs.out, if_neg he]
            obtain ⟨E, hE⟩ : ∃ E, E = (lineF s fk).1 := ⟨_, rfl⟩
            rw [← hE] at he HQ ⊢
            have he' : (E == 0) = false := by simpa using he
            clear hE
            have y0 := blk_cell RX.out 0
            have z0 := blk_unfrozen RX.out 0
            have y1 := blk_cell RX.out 1
            have z1 := blk_unfrozen RX.out 1
            have y2 := blk_cell RX.out 2
            have z2 := blk_unfrozen RX.out 2
            have y3 := blk_cell RX.out 3
            have z3 := blk_unfrozen RX.out 3
            have y4 := blk_cell RX.out 4
            have z4 := blk_unfrozen RX.out 4
            simp only [List.getElem?_toArray, List.getElem?_cons_zero, List.getElem?_cons_succ] at y0 y1 y2 y3 y4
            have HBZ := Hid.mk (set5_below (w := w) (b := w.heap.size) (Nat.le_refl _) HBr.out (.int .i64 E) (.int .i64 ((k : Int) + 1)) (.slice none 0 0) (.slice none 0 0) (.slice none 0 0))
            have HAZ := Hid.mk (accNil w.heap.size (((((wc.setCell ⟨w.heap.size, 0, none⟩ (.int .i64 E)).setCell ⟨w.heap.size, 1, none⟩ (.int .i64 ((k : Int) + 1))).setCell ⟨w.heap.size, 2, none⟩ (.slice none 0 0)).setCell ⟨w.heap.size, 3, none⟩ (.slice none 0 0)).setCell ⟨w.heap.size, 4, none⟩ (.slice none 0 0)))
            go_wp2
            obtain ⟨q0, q1, q2, q3, q4⟩ := set5 y0 y1 y2 y3 y4 (.int .i64 E) (.int .i64 ((k : Int) + 1)) (.slice none 0 0) (.slice none 0 0) (.slice none 0 0)
            obtain ⟨Z, hZ⟩ : ∃ Z, Z = (((((wc.setCell ⟨w.heap.size, 0, none⟩ (.int .i64 E)).setCell ⟨w.heap.size, 1, none⟩ (.int .i64 ((k : Int) + 1))).setCell ⟨w.heap.size, 2, none⟩ (.slice none 0 0)).setCell ⟨w.heap.size, 3, none⟩ (.slice none 0 0)).setCell ⟨w.heap.size, 4, none⟩ (.slice none 0 0)) := ⟨_, rfl⟩
            rw [← hZ] at q0 q1 q2 q3 q4 HBZ HAZ ⊢
            clear hZ
            refine bodyPost_ret (by simp [results, Tryz.results4, go_sem, q0, q1, q2, q3, q4]; try rfl) rfl ?_
            rw [HQ.out]
            exact ⟨_, _, _, rfl, HAZ.out, HBZ.out⟩
end Go.Proofs.YtdhnjkcebaahcaaGreatDoor.Parse
