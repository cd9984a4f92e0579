import Derived.Test.YtgooegcmgejfpaaGreatDoorGr38
import Derived.Test.YtgooegcmgejfpaaGreatDoorGr37
import Derived.Deep.DrawnRows
namespace Go.Proofs.YtgooegcmgejfpaaGreatDoor.Mac
open Go Go.RowKit Go.Proofs.YtgooegcmgejfpaaGreatDoor.Mem Go.Proofs.YtgooegcmgejfpaaGreatDoor.Travel
open Go.Proofs.YtgooegcmgejfpaaGreatDoor.Valid (inB nodes nodes_bd validB)
open Go.Proofs.YtgooegcmgejfpaaGreatDoor.StV (stopB okSt tripB)
set_option linter.unusedVariables false
set_option linter.unusedSimpArgs false
attribute [local go_sem ↓] Go.wp_at_zero Go.wp_at_succ

/-- A frame that stands where a state does. -/
def FrAt (w0 w : World) (F : Nat) (mp : Mp) (u : Nat) (S : St) : Prop :=
  (S.r = -1 ∧ ∃ f, Frx w0 w F f (lst S.n2 S.L2) (lst S.n3 S.L3) (lst S.n1 S.L1) mp u ∧ f.p = S.p ∧ f.d = S.d ∧ f.t = S.t ∧ f.s = S.s ∧ f.l = S.l) ∨
  (0 ≤ S.r ∧ Below w0.heap.size w0 w ∧ ∃ M q nx, w.heap[F]? = some (.cells (failC S.p S.r M q nx) 93))
theorem FrAt.bel {w0 w : World} {F : Nat} {mp : Mp} {u : Nat} {S : St} (h : FrAt w0 w F mp u S) : Below w0.heap.size w0 w := by
  rcases h with ⟨-, f, hx, -⟩ | ⟨-, hb, -⟩
  · exact hx.fra.bel
  · exact hb
/-- What a step leaves. -/
theorem step_at {w0 w w' : World} {F : Nat} {f : Fr} {mp : Mp} {u : Nat} {S : St} {n : Int} {e : Ending} (hok : okSt mp.C mp.I (u : Int) S = true) (hp : S.p ≠ -1) (hr : S.r = -1) (hlt : S.p < 4096) (hst : stopB mp.I n = true)
    (hx : Frx w0 w F f (lst S.n2 S.L2) (lst S.n3 S.L3) (lst S.n1 S.L1) mp u) (ep : f.p = S.p) (ed : f.d = S.d) (et : f.t = S.t) (es : f.s = S.s) (el : f.l = S.l) (hc : StepPost w0 F f (lst S.n2 S.L2) (lst S.n3 S.L3) (lst S.n1 S.L1) mp u n e w') :
    FrAt w0 w' F mp u (stepB mp.C mp.I (u : Int) S n) := by
  obtain ⟨-, R⟩ := run_ok hok hp (by omega)
  rw [Int.toNat_natCast] at R
  obtain ⟨-, hb5, hc⟩ := hc
  have hN : nextL mp.I u (stF f) n = nextL mp.I u S n := nextL_congr ep ed et es el
  have hO : exec (enAt mp.I u n) mp.C.B2 mp.C.n2 mp.C.n2 0 (over (lst S.n2 S.L2) (nextL mp.I u (stF f) n)) (lst S.n3 S.L3) = stepOut mp.C mp.I u S n := by
    unfold stepOut; rw [over_next, hN]
  obtain ⟨z1, z2, z3, z4⟩ := stop_bd hst
  have hq : (lst S.n1 S.L1).getD (qOf mp.I n) 0 = S.L1 (qOf mp.I n) := lst_get (by have := R.l1; unfold qOf; omega)
  rw [hO, hq] at hc
  unfold stepB
  rw [if_neg (by rw [hok]; simp [hp]), if_neg (by omega), if_neg (by rw [hst]; simp; omega), Int.toNat_natCast]
  by_cases hw : S.L1 (qOf mp.I n) ≠ dueOf mp.I n
  · rw [if_pos hw] at hc
    rw [if_pos hw]
    obtain ⟨qq, nx, hF⟩ := hc
    refine Or.inr ⟨by show (0 : Int) ≤ 0; omega, hb5, f.M, qq, nx, ?_⟩
    show w'.heap[F]? = some (.cells (failC (S.p + 1) 0 f.M qq nx) 93)
    rw [← ep]
    exact hF
  rw [if_neg hw] at hc
  rw [if_neg hw]
  rcases hc with ⟨hu, qq, nx, hy⟩ | ⟨hu, qq, nx, hF⟩
  · rw [if_neg (by omega)]
    have hlen := exec_len (E := enAt mp.I u n) (B := mp.C.B2) (n := mp.C.n2) mp.C.n2 0 (nextL mp.I u S n ++ (lst S.n2 S.L2).drop 13) (lst S.n3 S.L3)
    have X0 := hy.fra
    have hlr : (stepOut mp.C mp.I u S n).1.length = S.n2 := by
      rw [← X0.ok.nr]; show f.nr = S.n2; rw [hx.fra.ok.nr, lst_len]
    have hls : (stepOut mp.C mp.I u S n).2.1.length = S.n3 := by
      rw [← X0.ok.ns]; show f.ns = S.n3; rw [hx.fra.ok.ns, lst_len]
    have hlt' : ((lst S.n1 S.L1).set (qOf mp.I n) (dueOf mp.I n + 1)).length = S.n1 := by rw [List.length_set, lst_len]
    refine Or.inl ⟨rfl, { f with d := n, p := f.p + 1, t := nxT mp.I f n, s := nxS mp.I f n, l := nxL mp.I f n, q := qq, nx := nx, u := -1 }, ?_, ?_, rfl, ?_, ?_, ?_⟩
    rotate_left
    · show f.p + 1 = S.p + 1; rw [ep]
    · show nxT mp.I f n = (nextL mp.I u S n).getD 0 0; unfold nxT; rw [et, ed]; rfl
    · show nxS mp.I f n = (nextL mp.I u S n).getD 3 0; unfold nxS; rw [es, ed]; rfl
    · show nxL mp.I f n = (nextL mp.I u S n).getD 4 0; unfold nxL; rw [el]; rfl
    · show Frx w0 w' F _ (lst S.n2 (fun i => (stepOut mp.C mp.I u S n).1.getD i 0)) (lst S.n3 (fun i => (stepOut mp.C mp.I u S n).2.1.getD i 0)) (lst S.n1 (fun i => ((lst S.n1 S.L1).set (qOf mp.I n) (dueOf mp.I n + 1)).getD i 0)) mp u
      rw [lst_getD hlr, lst_getD hls, lst_getD hlt']
      exact hy
  · rw [if_pos (by omega)]
    refine Or.inr ⟨by show 0 ≤ (stepOut mp.C mp.I u S n).2.2; omega, hb5, f.M, qq, nx, ?_⟩
    show w'.heap[F]? = some (.cells (failC (S.p + 1) (stepOut mp.C mp.I u S n).2.2 f.M qq nx) 93)
    rw [← ep]
    exact hF
/-- A frame that begins. -/
theorem start_at {w w' : World} {F : Nat} {mp : Mp} {u : Nat} {e : Ending} (hc : ValC.okCo mp.C = true) (ht : tripB mp.I (u : Int) = true) (h : StartPost w mp mp.C mp.I u e w') :
    ∃ F, e = .returned (.pointer (some ⟨F, 0, none⟩)) ∧ FrAt w w' F mp u (startB mp.C mp.I (u : Int)) := by
  obtain ⟨F, he, hb, h⟩ := h
  refine ⟨F, he, ?_⟩
  obtain ⟨k0, k1, k2, k3⟩ := StV.co_bd hc
  obtain ⟨v0, v1, hval⟩ := trip_bd ht
  obtain ⟨q1, q2, q3⟩ := lens_bd (validB_parts hval).1
  have hm := StV.mul_bd k2 k3 q2
  unfold startB
  rw [if_pos ⟨hc, ht⟩, Int.toNat_natCast]
  rcases h with ⟨hu, f, e1, e2, e3, e4, e5, hx⟩ | ⟨hu, M, q, nx, hF⟩
  · rw [if_neg (by omega)]
    have hlr : (startOut mp.C mp.I u).1.length = mp.C.R.toNat := by
      have z := hx.fra.nr; have z2 := hx.fra.ok.nr; omega
    have hls : (startOut mp.C mp.I u).2.1.length = (mp.C.S * (mp.I.nQ : Int)).toNat := by
      have z := hx.fra.ns; have z2 := hx.fra.ok.ns; omega
    refine Or.inl ⟨rfl, f, ?_, e1, e2, e3, e4, e5⟩
    show Frx w w' F f (lst mp.C.R.toNat (fun i => (startOut mp.C mp.I u).1.getD i 0)) (lst (mp.C.S * (mp.I.nQ : Int)).toNat (fun i => (startOut mp.C mp.I u).2.1.getD i 0)) (lst mp.I.nQ (fun i => (zeros mp.I.nQ).getD i 0)) mp u
    rw [lst_getD hlr, lst_getD hls, lst_getD (zeros_len _)]
    exact hx
  · rw [if_pos (by omega)]
    exact Or.inr ⟨by show 0 ≤ (startOut mp.C mp.I u).2.2; omega, hb, M, q, nx, hF⟩
/-- A rule that is broken ends the route. -/
theorem aft_fail {C : Co} {I : In} {v : Int} {L : Nat → Int} (hc : ValC.okCo C = true) (ht : tripB I v = true) {k n : Nat} (hn : n ≤ 4096) (hs : ∀ i, i < n → stopB I (L i) = true) (hr : 0 ≤ (aftN C I v L k).r) : ∀ m, k + m ≤ n → (aftN C I v L (k + m)).p = (aftN C I v L k).p ∧ (aftN C I v L (k + m)).r = (aftN C I v L k).r := by
  intro m
  induction m with
  | zero => intro _; exact ⟨rfl, rfl⟩
  | succ m ih =>
    intro hm
    obtain ⟨e1, e2⟩ := ih (by omega)
    obtain ⟨g1, g2, -⟩ := aft_ok (L := L) hc ht (k + m) (by omega) (fun i hi => hs i (by omega))
    have e : aftN C I v L (k + (m + 1)) = bareS (aftN C I v L (k + m)).p (aftN C I v L (k + m)).r := by
      have hr' : 0 ≤ (aftN C I v L (k + m)).r := by omega
      exact step_bare g1 g2 hr'
    rw [e]
    exact ⟨e1, e2⟩
set_option maxHeartbeats 4000000 in
set_option maxRecDepth 100000 in
theorem followI (w0 : World) (F : Nat) (a : Option Addr) (n c : Nat) (L : Nat → Int) (mp : Mp) (u : Nat) (w : World) (hL : NumsAt w0 a n L) (hn : n ≤ 4096) (hc : ValC.okCo mp.C = true) (ht : tripB mp.I (u : Int) = true) (hs : ∀ i, i < n → stopB mp.I (L i) = true) (h : FrAt w0 w F mp u (startB mp.C mp.I (u : Int))) :
    Calls Tryz.prog 80 #[.pointer (some ⟨F, 0, none⟩), .slice a n c] w fun e w' => (∃ x, e = .returned x) ∧ FrAt w0 w' F mp u (aftN mp.C mp.I (u : Int) L n) := by
  have HL := Hid.mk hL
  have HH := Hid.mk h
  have HC := Hid.mk hc
  have HT := Hid.mk ht
  have HS := Hid.mk hs
  clear hL h hc ht hs
  go_enter Tryz.func80, Tryz.ntmps80
  go_wp2
  go_loopw [8] (fun i wr => ∃ k : Nat, k ≤ n ∧ i = .int .i64 (k : Int) ∧ Hid (FrAt w0 wr F mp u (aftN mp.C mp.I (u : Int) L k))) (fun i _ => n - (intOf i).toNat)
  case atStart => exact ⟨0, Nat.zero_le _, rfl, HH⟩
  case round =>
    obtain ⟨k, hk, rfl, hF⟩ := hrel
    by_cases hlt : k < n
    · obtain ⟨g1, g2, g3⟩ := aft_ok (L := L) HC.out HT.out k (by omega) (fun i hi => HS.out i (by omega))
      have G := Hid.mk (And.intro g1 (And.intro g2 g3))
      clear g1 g2 g3
      obtain ⟨b, off, rfl, hce⟩ := NumsAt.at (HL.out.below hF.out.bel) hlt
      have k0 : (0 : Int) ≤ (k : Int) := by omega
      have k1 : (k : Int) < (n : Int) := by omega
      obtain ⟨nd, hnd⟩ : ∃ nd, nd = L k := ⟨_, rfl⟩
      rw [← hnd] at hce
      have HND := Hid.mk hnd
      clear hnd
      rcases hF.out with ⟨hr, f, hx, ep, ed, et, es, el⟩ | ⟨hr, hb, M, q, nx, hf⟩
      · have HX := Hid.mk hx
        have HE := Hid.mk (And.intro ep (And.intro ed (And.intro et (And.intro es el))))
        have HR := Hid.mk hr
        have y1 := blk_cell hx.fra.ok.hF 1
        simp only [frC, List.getElem?_toArray, List.getElem?_cons_zero, List.getElem?_cons_succ] at y1
        rw [hx.fra.u] at y1
        have hp4 : Hid (f.p ≤ 4096) := by unfold Hid; have z := G.out.2.2 (by rw [HR.out]; omega); omega
        clear hx ep ed et es el hr hF
        go_wp2_with fail
        refine (stepI w0 _ F f _ _ _ mp u nd HX.out hp4.out (by rw [HND.out]; exact HS.out k hlt)).mono ?_
        rintro e w5 hpost
        have hq : Hid (FrAt w0 w5 F mp u (aftN mp.C mp.I (u : Int) L (k + 1))) := by
          have e := HE.out
          have z := G.out.2.2 (by rw [HR.out]; omega)
          have hs' := HS.out k hlt
          rw [← HND.out] at hs'
          have := step_at G.out.1 G.out.2.1 HR.out (by omega) hs' HX.out e.1 e.2.1 e.2.2.1 e.2.2.2.1 e.2.2.2.2 hpost
          rw [HND.out] at this
          exact this
        obtain ⟨vv, rfl⟩ := hpost.1
        clear hpost y1 hce
        go_wp2
        exact ⟨⟨k + 1, by omega, by go_num, hq⟩, by simp [intOf]; omega⟩
      · have y1 := blk_cell hf 1
        simp only [failC, List.getElem?_toArray, List.getElem?_cons_zero, List.getElem?_cons_succ] at y1
        have hz : ((aftN mp.C mp.I (u : Int) L k).r != -1) = true := by simp; omega
        have HFF := Hid.mk hf
        have HB := Hid.mk hb
        have HR := Hid.mk hr
        clear hf hb hr hF
        obtain ⟨rr, hrr⟩ : ∃ rr, rr = (aftN mp.C mp.I (u : Int) L k).r := ⟨_, rfl⟩
        rw [← hrr] at y1 hz
        clear hrr
        go_wp2
        refine bodyPost_ret (results_none rfl _ _ _) rfl ?_
        refine ⟨⟨_, rfl⟩, ?_⟩
        obtain ⟨m, hm⟩ : ∃ m, n = k + m := ⟨n - k, by omega⟩
        obtain ⟨e1, e2⟩ := aft_fail HC.out HT.out (n := n) (by omega) HS.out HR.out m (by omega)
        rw [hm]
        refine Or.inr ⟨by rw [e2]; exact HR.out, HB.out, M, q, nx, ?_⟩
        rw [e1, e2]
        exact HFF.out
    · obtain rfl : k = n := by omega
      go_wp2
      go_end0
      exact ⟨⟨_, rfl⟩, hF.out⟩
/-- The verdict at the end of a route. -/
theorem finish_at (w0 w : World) (F : Nat) (mp : Mp) (u : Nat) (S : St) (hok : okSt mp.C mp.I (u : Int) S = true) (hp : S.p ≠ -1) (h : FrAt w0 w F mp u S) :
    Calls Tryz.prog 76 #[.pointer (some ⟨F, 0, none⟩)] w fun e w2 => e = .returned (.agg #[.int .i64 (finB mp.C mp.I (u : Int) S).1, .int .i64 (finB mp.C mp.I (u : Int) S).2.1, .int .i64 (finB mp.C mp.I (u : Int) S).2.2]) ∧ Below w0.heap.size w0 w2 := by
  rcases h with ⟨hr, f, hx, ep, ed, et, es, el⟩ | ⟨hr, hb, M, q, nx, hF⟩
  · have hr' : ¬ 0 ≤ S.r := by omega
    obtain ⟨hv0, R⟩ := run_ok hok hp hr'
    rw [Int.toNat_natCast] at R
    refine (finishI w0 w F f _ _ _ mp u hx.fra (by rw [ep]; exact R.p1)).mono fun e w2 h => ⟨h.1.trans ?_, h.2⟩
    have hn : nextL mp.I u (stF f) (u : Int) = nextL mp.I u S u := nextL_congr ep ed et es el
    have hb3 : ValC.okBlk mp.C.R mp.C.S mp.C.n3 mp.C.B3 = true := by
      have := R.co
      unfold ValC.okCo at this
      simp only [Bool.and_eq_true] at this
      exact this.2
    have hU : homeU mp u f (lst S.n2 S.L2) (lst S.n3 S.L3) (lst S.n1 S.L1) = if anyB S.n1 (fun i => S.L1 i == 1) = true then 0 else lastR mp.C mp.I u S := by
      unfold homeU lastR
      rw [over_next, hn, lst_len, anyB_congr (fun i hi => by rw [lst_get hi])]
    have hx' := exec_u (E := enHome mp.I u) (blk_ok hb3).2 mp.C.n3 0 (nextL mp.I u S u ++ (lst S.n2 S.L2).drop 13) (lst S.n3 S.L3)
    have e1 : verd (f.p + 1) (homeU mp u f (lst S.n2 S.L2) (lst S.n3 S.L3) (lst S.n1 S.L1)) = finB mp.C mp.I (u : Int) S := by
      rw [hU, ep]
      unfold verd finB
      rw [if_neg (by rw [hok]; simp [hp] : ¬ (okSt mp.C mp.I (u : Int) S = false ∨ S.p = -1)), if_neg hr', Int.toNat_natCast]
      by_cases ha : anyB S.n1 (fun i => S.L1 i == 1) = true
      · rw [if_pos ha, if_pos ha, if_neg (by omega)]
      · rw [if_neg ha, if_neg ha]
        change lastR mp.C mp.I u S = -1 ∨ 1 ≤ lastR mp.C mp.I u S at hx'
        by_cases h0 : 0 ≤ lastR mp.C mp.I u S
        · rw [if_pos h0, if_neg (by omega)]
        · rw [if_neg h0, if_pos (by omega)]
    rw [e1]
  · refine (finishF w0 w F S.p S.r _ hF rfl rfl (by omega) hb).mono fun e w2 h => ⟨h.1.trans ?_, h.2⟩
    have e1 : verd S.p S.r = finB mp.C mp.I (u : Int) S := by
      unfold verd finB
      rw [if_neg (by omega), if_neg (by rw [hok]; simp [hp]), if_pos hr]
    rw [e1]
end Go.Proofs.YtgooegcmgejfpaaGreatDoor.Mac
