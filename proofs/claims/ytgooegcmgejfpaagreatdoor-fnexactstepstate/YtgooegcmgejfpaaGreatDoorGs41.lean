import Derived.Test.YtgooegcmgejfpaaGreatDoorGs40
import Derived.Test.YtgooegcmgejfpaaGreatDoorGs30
import Derived.Deep.DrawnRows
import Derived.Deep.Upon
import Derived.Lib.AppendZeros
namespace Go.Proofs.YtgooegcmgejfpaaGreatDoor.Mac
open Go Go.RowKit Go.Proofs.YtgooegcmgejfpaaGreatDoor.Mem Go.Proofs.YtgooegcmgejfpaaGreatDoor.Travel
open Go.Proofs.YtgooegcmgejfpaaGreatDoor.Valid (inB nodes nodes_bd validB ret_bool)
open Go.Proofs.YtgooegcmgejfpaaGreatDoor.StV (stopB okSt deadB failB runB)
set_option linter.unusedVariables false
set_option linter.unusedSimpArgs false

/-- A block ends with no rule, or with a rule's number. -/
theorem exec_u {E : En} {B : Nat → Is} {n : Nat} {R S : Int} (hok : ∀ i, i < n → OkI R S i n (B i)) (f : Nat) : ∀ (k : Nat) (r s : List Int), (exec E B n f k r s).2.2 = -1 ∨ 1 ≤ (exec E B n f k r s).2.2 := by
  induction f with
  | zero => intro k r s; exact Or.inl rfl
  | succ f ih =>
    intro k r s
    rw [exec]
    by_cases hk : n ≤ k
    · rw [if_pos hk]; exact Or.inl rfl
    rw [if_neg hk]
    have h := hok k (by omega)
    split
    · exact ih _ _ _
    · split
      · split <;> exact ih _ _ _
      · split
        · split <;> exact ih _ _ _
        · split
          · rename_i h18
            split
            · exact Or.inr (h.rul h18).1
            · exact ih _ _ _
          · split
            · exact ih _ _ _
            · exact ih _ _ _
theorem nextL_congr {I : In} {v : Nat} {S S' : St} {n : Int} (h1 : S.p = S'.p) (h2 : S.d = S'.d) (h3 : S.t = S'.t) (h4 : S.s = S'.s) (h5 : S.l = S'.l) : nextL I v S n = nextL I v S' n := by
  unfold nextL; rw [h1, h2, h3, h4, h5]
theorem over_next {I : In} {v : Nat} {S : St} {n : Int} {r : List Int} : over r (nextL I v S n) = nextL I v S n ++ r.drop 13 := rfl
theorem gone_below {w w' : World} {M : Nat} {S : St} {e : Ending} (h : Gone w M S e w') : Below w.heap.size w w' := by
  obtain ⟨wc, a1, a2, a3, e1, e2, e3, E1, E2, rfl, rfl, HB, -, -, -, -⟩ := h
  exact HB.alloc HB.size _
theorem gone_ret {w w' : World} {M : Nat} {S : St} {e : Ending} (h : Gone w M S e w') : ∃ F, e = .returned (.pointer (some ⟨F, 0, none⟩)) := by
  obtain ⟨wc, a1, a2, a3, e1, e2, e3, E1, E2, rfl, rfl, HB, -, -, -, -⟩ := h
  exact ⟨_, rfl⟩
theorem gone_at {w w' : World} {M F : Nat} {S : St} (h : Gone w M S (.returned (.pointer (some ⟨F, 0, none⟩))) w') : At w' F S.p S.r := by
  obtain ⟨wc, a1, a2, a3, e1, e2, e3, E1, E2, he, rfl, HB, -, -, -, -⟩ := h
  cases he
  exact ⟨_, blk_new _ _, rfl, rfl⟩
theorem anyB_congr {n : Nat} {f g : Nat → Bool} (h : ∀ i, i < n → f i = g i) : anyB n f = anyB n g := by
  unfold anyB; rw [allB_congr (f := fun i => !f i) (g := fun i => !g i) (fun i hi => by rw [h i hi])]
/-- A machine, as machineFor leaves it. -/
structure Mach (w : World) (M : Nat) (mp : Mp) (C : Co) (I : In) (v : Int) : Prop where
  hM : w.heap[M]? = some (.cells (mcC mp) 153)
  hB : ∃ B, Boxes w B mp.k5 mp.k6 mp.k7 mp.k8 mp.k9 mp.k10 mp.k11 mp.k12
  hC : CoAt w mp.a1 mp.a2 mp.a3 C
  hI : InAt w mp.b1 mp.b2 mp.b3 I
  C : mp.C = C
  I : mp.I = I
  v : mp.v = v
/-- A frame that goes on from a running state. -/
theorem goes_fra {w w' : World} {F M : Nat} {f : Fr} {S : St} {mp : Mp} {C : Co} {I : In} {u : Nat} (g : Goes w w' F M S f) (hm : Mach w M mp C I (u : Int)) (R : RunOk C I u S) : Fra w w' F f (lst S.n2 S.L2) (lst S.n3 S.L3) (lst S.n1 S.L1) mp u := by
  obtain ⟨hM, ⟨B, hB⟩, hC, hI, rfl, rfl, hv⟩ := hm
  have hMl := blk_lt hM
  have bx : ∀ k fid, w.heap[k]? = some (.cells #[fnV fid] 130) → Box w' F f.gR f.gS k fid := fun k fid hk => by
    have := blk_lt hk
    exact ⟨blk_below hk g.bel, by have := g.bF; omega, by have := g.bR; omega, by have := g.bS; omega⟩
  have h1 := g.bF
  have h2 := g.bR
  have h3 := g.bS
  have r1 := R.p0
  have r2 := R.p1
  exact ⟨g.ok, g.bel, g.bF, g.bR, g.bS, by rw [g.m]; exact blk_below hM g.bel, by rw [g.m]; omega, by rw [g.m]; omega, by rw [g.m]; omega, hI, hC, bx _ _ hB.b5, bx _ _ hB.b6, bx _ _ hB.b7, bx _ _ hB.b8, bx _ _ hB.b9, bx _ _ hB.b10, bx _ _ hB.b11, bx _ _ hB.b12, R.val, R.co, hv, R.hv,
    by rw [g.ok.nr, lst_len]; exact R.l2, by rw [g.ok.ns, lst_len]; exact R.l3, lst_bd R.a2, lst_bd R.a3, g.u.trans R.r, by rw [g.p]; exact r1, by rw [g.p]; omega, by rw [g.d]; exact R.d0, by rw [g.d]; exact R.d1, by rw [lst_len]; exact g.nT, by rw [lst_len]; exact R.l1, g.lS, by
      rcases g.st with h | h
      · exact Or.inl (by rw [lst_len]; exact h)
      · exact Or.inr h⟩
/-- The rest of FinishState: the frame is there. -/
theorem finGo {w w' : World} {F M : Nat} {S : St} {mp : Mp} {C : Co} {I : In} {v : Int} (hok : okSt C I v S = true) (hp : S.p ≠ -1) (hm : Mach w M mp C I v) (hg : Gone w M S (.returned (.pointer (some ⟨F, 0, none⟩))) w') :
    Calls Tryz.prog 76 #[.pointer (some ⟨F, 0, none⟩)] w' fun e w2 => e = .returned (.agg #[.int .i64 (finB C I v S).1, .int .i64 (finB C I v S).2.1, .int .i64 (finB C I v S).2.2]) ∧ Below w.heap.size w w2 := by
  by_cases hr : 0 ≤ S.r
  · obtain ⟨cs, hF, hc0, hc1⟩ := gone_at hg
    refine (finishF w w' F S.p S.r cs hF hc0 hc1 (by omega) (gone_below hg)).mono fun e w2 h => ⟨h.1.trans ?_, h.2⟩
    have e1 : verd S.p S.r = finB C I v S := by
      unfold verd finB
      rw [if_neg (by omega), if_neg (by rw [hok]; simp [hp]), if_pos hr]
    rw [e1]
  · obtain ⟨hv0, R⟩ := run_ok hok hp hr
    obtain ⟨u, rfl⟩ : ∃ u : Nat, v = (u : Int) := ⟨v.toNat, by omega⟩
    rw [Int.toNat_natCast] at R
    obtain ⟨k0, k1, k2, k3⟩ := StV.co_bd R.co
    have hl := R.l2
    obtain ⟨F', f, he, g⟩ := gone_goes hg (by omega)
    cases he
    have fr := goes_fra g hm R
    refine (finishI w w' F f _ _ _ mp u fr (by rw [g.p]; exact R.p1)).mono fun e w2 h => ⟨h.1.trans ?_, h.2⟩
    have eI := hm.I
    have eC := hm.C
    have hn : nextL mp.I u (stF f) (u : Int) = nextL I u S u := by
      rw [eI]; exact nextL_congr g.p g.d g.t g.s g.l
    have hb3 : ValC.okBlk C.R C.S C.n3 C.B3 = true := by
      have := R.co
      unfold ValC.okCo at this
      simp only [Bool.and_eq_true] at this
      exact this.2
    have hU : homeU mp u f (lst S.n2 S.L2) (lst S.n3 S.L3) (lst S.n1 S.L1) = if anyB S.n1 (fun i => S.L1 i == 1) = true then 0 else lastR C I u S := by
      unfold homeU lastR
      rw [over_next, hn, eI, eC, lst_len, anyB_congr (fun i hi => by rw [lst_get hi])]
    have hx := exec_u (E := enHome I u) (blk_ok hb3).2 C.n3 0 (nextL I u S u ++ (lst S.n2 S.L2).drop 13) (lst S.n3 S.L3)
    have e1 : verd (f.p + 1) (homeU mp u f (lst S.n2 S.L2) (lst S.n3 S.L3) (lst S.n1 S.L1)) = finB C I (u : Int) S := by
      rw [hU, g.p]
      unfold verd finB
      rw [if_neg (by rw [hok]; simp [hp] : ¬ (okSt C I (u : Int) S = false ∨ S.p = -1)), if_neg hr, Int.toNat_natCast]
      by_cases ha : anyB S.n1 (fun i => S.L1 i == 1) = true
      · rw [if_pos ha, if_pos ha, if_neg (by omega)]
      · rw [if_neg ha, if_neg ha]
        change lastR C I u S = -1 ∨ 1 ≤ lastR C I u S at hx
        by_cases h0 : 0 ≤ lastR C I u S
        · rw [if_pos h0, if_neg (by omega)]
        · rw [if_neg h0, if_pos (by omega)]
    rw [e1]
end Go.Proofs.YtgooegcmgejfpaaGreatDoor.Mac
namespace Go.Proofs.YtgooegcmgejfpaaGreatDoor.Mac
open Go Go.RowKit Go.Proofs.YtgooegcmgejfpaaGreatDoor.Mem Go.Proofs.YtgooegcmgejfpaaGreatDoor.Travel
open Go.Proofs.YtgooegcmgejfpaaGreatDoor.Valid (inB nodes nodes_bd validB ret_bool)
open Go.Proofs.YtgooegcmgejfpaaGreatDoor.StV (stopB)
set_option linter.unusedVariables false
set_option linter.unusedSimpArgs false
attribute [local go_sem ↓] Go.wp_at_zero Go.wp_at_succ

/-- A frame whose machine is older than the call. -/
structure Frx (w0 w : World) (F : Nat) (f : Fr) (r s T : List Int) (mp : Mp) (v : Nat) : Prop where
  fra : Fra w0 w F f r s T mp v
  lM : f.M < w0.heap.size
  l5 : mp.k5 < w0.heap.size
  l6 : mp.k6 < w0.heap.size
  l7 : mp.k7 < w0.heap.size
  l8 : mp.k8 < w0.heap.size
  l9 : mp.k9 < w0.heap.size
  l10 : mp.k10 < w0.heap.size
  l11 : mp.k11 < w0.heap.size
  l12 : mp.k12 < w0.heap.size
theorem goes_frx {w w' : World} {F M : Nat} {f : Fr} {S : St} {mp : Mp} {C : Co} {I : In} {u : Nat} (g : Goes w w' F M S f) (hm : Mach w M mp C I (u : Int)) (R : RunOk C I u S) : Frx w w' F f (lst S.n2 S.L2) (lst S.n3 S.L3) (lst S.n1 S.L1) mp u := by
  obtain ⟨B, hB⟩ := hm.hB
  exact ⟨goes_fra g hm R, by rw [g.m]; exact blk_lt hm.hM, blk_lt hB.b5, blk_lt hB.b6, blk_lt hB.b7, blk_lt hB.b8, blk_lt hB.b9, blk_lt hB.b10, blk_lt hB.b11, blk_lt hB.b12⟩
theorem Frx.moved {w0 w w' : World} {F : Nat} {f : Fr} {r s T : List Int} {mp : Mp} {v : Nat} (h : Frx w0 w F f r s T mp v) {n : Int} (n0 : 0 ≤ n) (n1 : n ≤ nodes mp.I - 1) (hp : f.p ≤ 4096)
    (ho : Ok w' F { f with d := n, p := f.p + 1, t := nxT mp.I f n, s := nxS mp.I f n, l := nxL mp.I f n } (over r (nextL mp.I v (stF f) n)) s) (ht : Oth w0.heap.size F f.gR f.gS w w') :
    Frx w0 w' F { f with d := n, p := f.p + 1, t := nxT mp.I f n, s := nxS mp.I f n, l := nxL mp.I f n } (over r (nextL mp.I v (stF f) n)) s T mp v :=
  ⟨h.fra.moved n0 n1 hp ho ht, h.lM, h.l5, h.l6, h.l7, h.l8, h.l9, h.l10, h.l11, h.l12⟩
theorem Box.set {w : World} {F gR gS k g i : Nat} {fid : FuncId} (h : Box w F gR gS k fid) (hne : k ≠ g) (x : Value) : Box (w.setCell ⟨g, i, none⟩ x) F gR gS k fid := ⟨blk_set_other h.blk hne _, h.f, h.r, h.s⟩
theorem Ok.away {w : World} {F : Nat} {f : Fr} {r s : List Int} (h : Ok w F f r s) {g i : Nat} (h1 : g ≠ F) (h2 : g ≠ f.gR) (h3 : g ≠ f.gS) (x : Value) : Ok (w.setCell ⟨g, i, none⟩ x) F f r s :=
  ⟨blk_set_other h.hF (Ne.symm h1) _, h.hr.other h2 _, h.hs.other h3 _, h.nr, h.ns, h.aS, h.fr, h.fs, h.rs⟩
/-- The status of one request is written. -/
theorem Frx.status {w0 w : World} {F : Nat} {f : Fr} {r s T : List Int} {mp : Mp} {v : Nat} (h : Frx w0 w F f r s T mp v) {g q : Nat} (hg : f.aT = some ⟨g, 0, none⟩ ∧ w0.heap.size ≤ g ∧ g ≠ F ∧ g ≠ f.gR ∧ g ≠ f.gS ∧ Rw w g T) (hq : q < T.length) (x : Int) :
    Frx w0 (w.setCell ⟨g, q, none⟩ (.int .i64 x)) F f r s (T.set q x) mp v := by
  obtain ⟨h1, h2, h3, h4, h5, h6⟩ := hg
  have f0 := h.fra
  have ne : ∀ k, k < w0.heap.size → k ≠ g := fun k hk => by omega
  exact ⟨⟨f0.ok.away h3 h4 h5 _, f0.bel.setCell h2 _, f0.bF, f0.bR, f0.bS, blk_set_other f0.hM (ne _ h.lM) _, f0.mF, f0.mR, f0.mS, f0.hI, f0.hC, f0.b5.set (ne _ h.l5) _, f0.b6.set (ne _ h.l6) _, f0.b7.set (ne _ h.l7) _, f0.b8.set (ne _ h.l8) _, f0.b9.set (ne _ h.l9) _, f0.b10.set (ne _ h.l10) _, f0.b11.set (ne _ h.l11) _, f0.b12.set (ne _ h.l12) _, f0.val, f0.co, f0.mv, f0.hv, f0.nr, f0.ns, f0.Br, f0.Bs, f0.u, f0.p0, f0.p1, f0.d0, f0.d1, by rw [List.length_set]; exact f0.nT, by rw [List.length_set]; exact f0.lT, by rw [size_set]; exact f0.lS, Or.inr ⟨g, h1, h2, h3, h4, h5, h6.set hq x⟩⟩, h.lM, h.l5, h.l6, h.l7, h.l8, h.l9, h.l10, h.l11, h.l12⟩
/-- Behind a block. -/
theorem Frx.ran {w0 w w' : World} {F : Nat} {f : Fr} {r s r' s' T : List Int} {mp : Mp} {v : Nat} {q nx : Int} {E : En} (h : Frx w0 w F f r s T mp v) (hr : Run w0 w' F { f with q := q, nx := nx, u := -1 } r' s' mp E mp.C.R mp.C.S) (ht : Oth w0.heap.size F f.gR f.gS w w') :
    Frx w0 w' F { f with q := q, nx := nx, u := -1 } r' s' T mp v := by
  have f0 := h.fra
  exact ⟨⟨hr.ok, hr.bel, f0.bF, f0.bR, f0.bS, hr.hM, f0.mF, f0.mR, f0.mS, f0.hI, f0.hC, hr.b5, hr.b6, hr.b7, hr.b8, hr.b9, hr.b10, hr.b11, hr.b12, f0.val, f0.co, f0.mv, f0.hv, f0.nr, f0.ns, hr.Br, hr.Bs, rfl, f0.p0, f0.p1, f0.d0, f0.d1, f0.nT, f0.lT, Nat.lt_of_lt_of_le f0.lS ht.bel.size, by
    rcases f0.st with h0 | ⟨g, h1, h2, h3, h4, h5, h6⟩
    · exact Or.inl h0
    · exact Or.inr ⟨g, h1, h2, h3, h4, h5, h6.oth ht h3 h4 h5⟩⟩, h.lM, h.l5, h.l6, h.l7, h.l8, h.l9, h.l10, h.l11, h.l12⟩

theorem dueI (b : Bool) (w : World) : Calls Tryz.prog 123 #[.bool b] w fun e w' => e = .returned (.int .i64 (bit b)) ∧ w' = w := by
  cases b <;> (go_enter Tryz.func123, Tryz.ntmps123; go_wp2; go_ret; exact ⟨rfl, rfl⟩)

/-- The request of a stop, and the status that it must have. -/
def qOf (I : In) (n : Int) : Nat := ((n - I.nV) / 2).toNat
def dueOf (I : In) (n : Int) : Int := bit ((n - I.nV) % 2 == 1)
/-- What a step leaves: a rule that is broken, or a frame that runs. -/
def StepPost (w0 : World) (F : Nat) (f : Fr) (r s T : List Int) (mp : Mp) (v : Nat) (n : Int) (e : Ending) (w' : World) : Prop :=
  (∃ x, e = .returned x) ∧ Below w0.heap.size w0 w' ∧
    if T.getD (qOf mp.I n) 0 ≠ dueOf mp.I n then (∃ q nx, w'.heap[F]? = some (.cells (failC (f.p + 1) 0 f.M q nx) 93))
    else ((exec (enAt mp.I v n) mp.C.B2 mp.C.n2 mp.C.n2 0 (over r (nextL mp.I v (stF f) n)) s).2.2 = -1 ∧ ∃ q nx, Frx w0 w' F { f with d := n, p := f.p + 1, t := nxT mp.I f n, s := nxS mp.I f n, l := nxL mp.I f n, q := q, nx := nx, u := -1 } (exec (enAt mp.I v n) mp.C.B2 mp.C.n2 mp.C.n2 0 (over r (nextL mp.I v (stF f) n)) s).1 (exec (enAt mp.I v n) mp.C.B2 mp.C.n2 mp.C.n2 0 (over r (nextL mp.I v (stF f) n)) s).2.1 (T.set (qOf mp.I n) (dueOf mp.I n + 1)) mp v) ∨
      (1 ≤ (exec (enAt mp.I v n) mp.C.B2 mp.C.n2 mp.C.n2 0 (over r (nextL mp.I v (stF f) n)) s).2.2 ∧ ∃ q nx, w'.heap[F]? = some (.cells (failC (f.p + 1) (exec (enAt mp.I v n) mp.C.B2 mp.C.n2 mp.C.n2 0 (over r (nextL mp.I v (stF f) n)) s).2.2 f.M q nx) 93))

set_option maxHeartbeats 4000000 in
set_option maxRecDepth 100000 in
theorem stepI (w0 w : World) (F : Nat) (f : Fr) (r s T : List Int) (mp : Mp) (v : Nat) (n : Int) (h : Frx w0 w F f r s T mp v) (hp : f.p ≤ 4096) (hs : stopB mp.I n = true) :
    Calls Tryz.prog 75 #[.pointer (some ⟨F, 0, none⟩), .int .i64 n] w (StepPost w0 F f r s T mp v n) := by
  have H := Hid.mk h
  have y9 := blk_cell h.fra.ok.hF 9
  have m0 := blk_cell h.fra.hM 0
  have m1 := blk_cell h.fra.hM 1
  have m2 := blk_cell h.fra.hM 2
  simp only [frC, mcC, List.getElem?_toArray, List.getElem?_cons_zero, List.getElem?_cons_succ] at y9 m0 m1 m2
  obtain ⟨l1, l2, l3⟩ := lens_bd (validB_parts h.fra.val).1
  obtain ⟨g1, g2, g3, g4⟩ := stop_bd hs
  have n0 : 0 ≤ n := by omega
  obtain ⟨k0, k1, k2, k3⟩ := StV.co_bd h.fra.co
  have hnr := h.fra.nr
  have hTl : Hid (T.length = mp.I.nQ) := h.fra.lT
  have hTn : Hid (f.nT = T.length) := h.fra.nT
  have HST := Hid.mk hs
  clear h
  go_enter Tryz.func75, Tryz.ntmps75
  go_wp2_with fail
  refine (stopOfI mp.b1 mp.b2 mp.b3 mp.d1 mp.d2 mp.d3 mp.I n _ l1 l2 hs).mono ?_
  rintro e w1 ⟨rfl, hb⟩
  have HB1 := Hid.mk hb
  clear hb y9 m0 m1 m2
  have G0 : Hid (Frx w0 w1 F f r s T mp v) := Hid.mk ⟨H.out.fra.below HB1.out, H.out.lM, H.out.l5, H.out.l6, H.out.l7, H.out.l8, H.out.l9, H.out.l10, H.out.l11, H.out.l12⟩
  go_wp2_with fail
  refine (dueI _ _).mono ?_
  rintro e w' ⟨rfl, rfl⟩
  go_wp2_with fail
  refine (moveToI w0.heap.size F f r s mp v n _ G0.out.fra.ok G0.out.fra.hM (G0.out.fra.hI.below G0.out.fra.bel) G0.out.fra.val G0.out.fra.mv G0.out.fra.hv G0.out.fra.d0 G0.out.fra.d1 n0 g2 G0.out.fra.p0 (by omega) G0.out.fra.bel.size G0.out.fra.bF G0.out.fra.bR (by omega) G0.out.fra.mF G0.out.fra.mR G0.out.fra.mS).mono ?_
  rintro e w2 ⟨⟨vv, rfl⟩, ho, ht⟩
  have G := Hid.mk (G0.out.moved n0 g2 hp ho ht)
  clear ho ht
  obtain ⟨q, hq⟩ : ∃ q : Nat, (n - mp.I.nV) / 2 = (q : Int) := ⟨((n - mp.I.nV) / 2).toNat, by omega⟩
  have hqe : Hid (qOf mp.I n = q) := by unfold Hid qOf; rw [hq]; exact Int.toNat_natCast q
  have hql : q < T.length := by have := hTl.out; omega
  rw [hq]
  rcases G.out.fra.st with h0 | ⟨g, e1, e2, e3, e4, e5, e6⟩
  · omega
  have HG := Hid.mk (And.intro e1 (And.intro e2 (And.intro e3 (And.intro e4 (And.intro e5 e6)))))
  have y6 := blk_cell G.out.fra.ok.hF 6
  simp only [frC, mcC, List.getElem?_toArray, List.getElem?_cons_zero, List.getElem?_cons_succ] at y6
  have e1' : f.aT = some ⟨g, 0, none⟩ := e1
  rw [e1'] at y6
  have c0 := (e6 q hql).1
  have c1 := (e6 q hql).2
  obtain ⟨tq, htq⟩ : ∃ tq, tq = T.getD q 0 := ⟨_, rfl⟩
  rw [← htq] at c0
  have HTQ := Hid.mk htq
  clear htq
  have kk0 : (0 : Int) ≤ (q : Int) := by omega
  have kk1 : (q : Int) < (f.nT : Int) := by have := hTn.out; omega
  have hd : Hid (dueOf mp.I n = bit ((n - mp.I.nV) % 2 == 1)) := rfl
  generalize hdu : bit ((n - (mp.I.nV : Int)) % 2 == 1) = du at hd ⊢
  have hdb : 0 ≤ du ∧ du ≤ 1 := by rw [← hdu]; exact bit_bd _
  clear e1 e1' e2 e3 e4 e5 e6 hdu
  by_cases hw : tq = du
  · have t1 : (tq != du) = false := by rw [hw]; exact bne_self_eq_false du
    have HW := Hid.mk hw
    clear hw
    have hww : IntKind.i64.wrap (du + 1) = du + 1 := by rw [IntKind.wrap_i64]; omega
    go_upto_region 6 with fail
    have G2 := Hid.mk (G.out.status HG.out hql (du + 1))
    clear y6 c0 c1
    obtain ⟨X, hX⟩ : ∃ X, X = w2.setCell ⟨g, q, none⟩ (.int .i64 (du + 1)) := ⟨_, rfl⟩
    rw [← hX] at G2 ⊢
    clear hX
    have y9 := blk_cell G2.out.fra.ok.hF 9
    have m7 := blk_cell G2.out.fra.hM 7
    simp only [frC, mcC, List.getElem?_toArray, List.getElem?_cons_zero, List.getElem?_cons_succ] at y9 m7
    have hb2 : Hid (ValC.okBlk mp.C.R mp.C.S mp.C.n2 mp.C.B2 = true) := by
      have := H.out.fra.co
      unfold ValC.okCo at this
      simp only [Bool.and_eq_true] at this
      exact this.1.2
    go_wp2_with fail
    refine (G2.out.fra.block mp.C.B2 mp.C.n2 mp.c2 mp.a2 H.out.fra.hC.b2 hb2.out).mono ?_
    rintro e w3 ⟨⟨vv, rfl⟩, ht, hr⟩
    have HT := Hid.mk ht
    have HR := Hid.mk hr
    clear ht hr y9 m7
    go_wp2
    go_end0
    refine ⟨⟨_, rfl⟩, G2.out.fra.bel.trans HT.out.bel, ?_⟩
    rw [if_neg (by rw [hqe.out, hd.out, ← HTQ.out]; exact fun h => h HW.out), hqe.out, hd.out]
    rcases HR.out with ⟨x1, nx, hrun⟩ | ⟨x1, nx, hF⟩
    · exact Or.inl ⟨x1, _, nx, G2.out.ran hrun HT.out⟩
    · exact Or.inr ⟨x1, _, nx, hF⟩
  · have t1 : (tq != du) = true := bne_iff_ne.2 hw
    have HW := Hid.mk hw
    clear hw
    go_wp2_with fail
    refine (failI w0.heap.size F _ 0 _ G.out.fra.ok.hF H.out.fra.bF f.gR f.gS).mono ?_
    rintro e w3 ⟨⟨vv, rfl⟩, hF, ht⟩
    have HF := Hid.mk hF
    have HT := Hid.mk ht
    clear hF ht
    go_wp2
    refine bodyPost_ret (results_none rfl _ _ _) rfl ?_
    refine ⟨⟨_, rfl⟩, G.out.fra.bel.trans HT.out.bel, ?_⟩
    rw [if_pos (by rw [hqe.out, hd.out, ← HTQ.out]; exact HW.out)]
    exact ⟨_, _, HF.out⟩
end Go.Proofs.YtgooegcmgejfpaaGreatDoor.Mac
namespace Go.Proofs.YtgooegcmgejfpaaGreatDoor.Mac
open Go Go.RowKit Go.Proofs.YtgooegcmgejfpaaGreatDoor.Mem Go.Proofs.YtgooegcmgejfpaaGreatDoor.Travel
open Go.Proofs.YtgooegcmgejfpaaGreatDoor.Valid (inB nodes nodes_bd validB)
open Go.Proofs.YtgooegcmgejfpaaGreatDoor.StV (stopB okSt)
set_option linter.unusedVariables false
set_option linter.unusedSimpArgs false
attribute [local go_sem ↓] Go.wp_at_zero Go.wp_at_succ

/-- States that hold nothing but a position and a rule. -/
def bareS (p r : Int) : St := ⟨p, r, 0, 0, 0, 0, 0, 0, 0, fun _ => 0, fun _ => 0, fun _ => 0⟩
theorem bare_at (w : World) (p r : Int) : StAt w none none none (bareS p r) := ⟨Or.inl rfl, Or.inl rfl, Or.inl rfl⟩
def stepOut (C : Co) (I : In) (v : Nat) (S : St) (n : Int) : List Int × List Int × Int := exec (enAt I v n) C.B2 C.n2 C.n2 0 (nextL I v S n ++ (lst S.n2 S.L2).drop 13) (lst S.n3 S.L3)
/-- The state one stop further on, where none is broken. -/
def goneS (C : Co) (I : In) (v : Nat) (S : St) (n : Int) : St :=
  ⟨S.p + 1, -1, n, (nextL I v S n).getD 0 0, (nextL I v S n).getD 3 0, (nextL I v S n).getD 4 0, S.n1, S.n2, S.n3, fun i => ((lst S.n1 S.L1).set (qOf I n) (dueOf I n + 1)).getD i 0, fun i => (stepOut C I v S n).1.getD i 0, fun i => (stepOut C I v S n).2.1.getD i 0⟩
/-- What StepState answers. -/
def stepB (C : Co) (I : In) (v : Int) (S : St) (n : Int) : St :=
  if okSt C I v S = false ∨ S.p = -1 then bareS (-1) (-1)
  else if 0 ≤ S.r then bareS S.p S.r
  else if S.p = 4096 ∨ stopB I n = false then bareS (-1) (-1)
  else if S.L1 (qOf I n) ≠ dueOf I n then bareS (S.p + 1) 0
  else if 0 ≤ (stepOut C I v.toNat S n).2.2 then bareS (S.p + 1) (stepOut C I v.toNat S n).2.2
  else goneS C I v.toNat S n
/-- A state as an answer. -/
def StRet (w : World) (S : St) (e : Ending) (w' : World) : Prop :=
  ∃ a1 a2 a3 c1 c2 c3, e = .returned (stV S a1 a2 a3 c1 c2 c3) ∧ StAt w' a1 a2 a3 S ∧ Below w.heap.size w w'
theorem infoSt : (Tryz.prog.info? 34).map (·.size) = some 9 := by kernel_rfl
theorem deadS (w : World) : Calls Tryz.prog 38 #[] w fun e w' => e = .returned (.agg #[.int .i64 (-1), .int .i64 (-1), .int .i64 0, .int .i64 0, .int .i64 0, .int .i64 0, .slice none 0 0, .slice none 0 0, .slice none 0 0]) ∧ Below w.heap.size w w' := by
  go_enter Tryz.func38, Tryz.ntmps38
  go_wp2
  go_returns
  exact ⟨rfl, by go_grown⟩
theorem failedS (p r : Int) (w : World) : Calls Tryz.prog 43 #[.int .i64 p, .int .i64 r] w fun e w' => e = .returned (.agg #[.int .i64 p, .int .i64 r, .int .i64 0, .int .i64 0, .int .i64 0, .int .i64 0, .slice none 0 0, .slice none 0 0, .slice none 0 0]) ∧ Below w.heap.size w w' := by
  go_enter Tryz.func43, Tryz.ntmps43
  go_wp2
  go_returns
  exact ⟨rfl, by go_grown⟩
end Go.Proofs.YtgooegcmgejfpaaGreatDoor.Mac
namespace Go.Proofs.YtgooegcmgejfpaaGreatDoor.Mac
open Go Go.RowKit Go.Proofs.YtgooegcmgejfpaaGreatDoor.Mem
set_option linter.unusedVariables false
set_option linter.unusedSimpArgs false

theorem own_empty {w : World} {b : Nat} (h : w.heap[b]? = some (.cells #[] 2)) : w.ownsRow b 2 1 (.slice (some ⟨b, 0, none⟩) 0 0) 0 (icells []) := by
  refine ⟨by simp [icells], Or.inr ⟨b, 0, _, rfl, Nat.le_refl _, h, Nat.le_refl _, by unfold maxLen; omega, by simp, by simp [icells]⟩⟩
theorem li_far {w : World} {a : Option Addr} {l : List Int} {g : Nat} (h : Li w a l) (hne : l.length = 0 ∨ ∀ b, a = some b → b.block ≠ g) (cs : Array Value) : Li (w.setRow g cs) a l := by
  rcases h with h | ⟨b, off, rfl, h⟩
  · exact Or.inl h
  · rcases hne with h0 | hne
    · exact Or.inl h0
    · refine Or.inr ⟨b, off, rfl, fun i hi => fun j v hv => ?_⟩
      exact (cell_setRow_other w g cs _ (show b ≠ g from hne _ rfl)).trans (h i hi j v hv)
theorem li_oth {w w' : World} {a : Option Addr} {l : List Int} {b : Nat} (h : Li w a l) (ho : ∀ k, k < w.heap.size → k ≠ b → w'.heap[k]? = w.heap[k]?) (hne : l.length = 0 ∨ ∀ x, a = some x → x.block ≠ b) : Li w' a l := by
  rcases h with h | ⟨g, off, rfl, h⟩
  · exact Or.inl h
  · rcases hne with h0 | hne
    · exact Or.inl h0
    · refine Or.inr ⟨g, off, rfl, fun i hi => fun j v hv => ?_⟩
      have hc := h i hi j v hv
      have hb := ho g (World.block_lt_of_cell? w _ hc) (hne _ rfl)
      simp only [World.cell?] at hc ⊢
      rw [hb]; exact hc
theorem cell_oth {w w' : World} {k o b : Nat} {v : Value} (h : w.cell? ⟨k, o, none⟩ = some v) (ho : ∀ k, k < w.heap.size → k ≠ b → w'.heap[k]? = w.heap[k]?) (hne : k ≠ b) : w'.cell? ⟨k, o, none⟩ = some v := by
  have hb := ho k (lt_of_cell h) hne
  simp only [World.cell?] at h ⊢
  rw [hb]; exact h
theorem li_lt {w : World} {a : Option Addr} {l : List Int} (h : Li w a l) (hl : 0 < l.length) : ∀ x, a = some x → x.block < w.heap.size := by
  obtain ⟨b, off, rfl, hc⟩ := h.at hl
  intro x hx
  cases hx
  exact lt_of_cell hc
/-- A list appended to an empty one of the call's own. -/
theorem wp_clone {o : Oper} {a : Act} {w : World} {K : Act → World → Prop} {Q : Exit → Act → World → Prop} (s x : Operand) (ho : o.op = .call { callee := .builtin .append, args := #[s, x], argTypes := #[32, 32] })
    (b : Nat) (hb : w.heap[b]? = some (.cells #[] 2)) (hs : a.eval s = .slice (some ⟨b, 0, none⟩) 0 0) (ax : Option Addr) (n c : Nat) (l : List Int) (hx : a.eval x = .slice ax n c) (hl : Li w ax l) (hn : n = l.length) (hN : n ≤ 1048576)
    (h : ∀ a' c' w', n ≤ c' → Li w' a' l → (∀ ad, a' = some ad → b ≤ ad.block) → (∀ k, k < w.heap.size → k ≠ b → w'.heap[k]? = w.heap[k]?) → (∀ B w0, Below B w0 w → B ≤ b → Below B w0 w') → K (a.put o.dst (.slice a' n c')) w') : o.wp Tryz.prog a w K Q := by
  obtain ⟨i0, hi, hz0, hz1, hz2⟩ := info_parts infoIn
  by_cases h0 : n = 0
  · subst h0
    have hl0 : l = [] := List.length_eq_zero_iff.1 hn.symm
    subst hl0
    have hsrc : Src Tryz.prog i0.size 32 (.slice ax 0 c) 0 [] w := by
      cases ax with
      | none => exact Src.ofNil w Tryz.underlying32 c
      | some ad => exact Src.ofSlice w Tryz.underlying32 ad 0 c [] (by simp) (fun j u hj => by simp at hj) (fun u hu => by simp at hu)
    exact Lib.wp_append_run w s x _ _ ho _ _ hs hx _ w (run_append_nothing w _ _ _ _ i0 Tryz.underlying32 hi (some ⟨b, 0, none⟩) 0 0 (Nat.le_refl _) _ hsrc) (h _ _ _ (Nat.le_refl _) (Or.inl rfl) (fun ad e => by cases e; exact Nat.le_refl _) (fun _ _ _ => rfl) (fun _ _ hB _ => hB))
  · rcases hl with hl | ⟨g, off, rfl, hl⟩
    · omega
    have hnews : ∀ j u, (icells l)[j]? = some u → w.cell? ((⟨g, off, none⟩ : Addr).add j) = some u := fun j u hj => by
      obtain ⟨h1, rfl⟩ := icells_get l j u hj
      have := ci.at (hl j h1)
      rw [Nat.mul_one] at this
      rw [Addr.add_mid]
      exact this
    refine wp_append_own w s x 32 ho b 2 i0 (.int .i64 0) 1 8 Tryz.underlying32 hi hz0 hz1 hz2 rfl (by decide) _ 0 (icells []) hs (own_empty hb) ⟨g, off, none⟩ n c (icells l) hx (by simp [icells]; exact hn.symm) hnews (icells_one l) (by unfold maxLen; omega) (by omega) (Nat.le_of_lt (blk_lt hb)) ?_
    intro v2 w2 hown hgrow _
    rw [show icells [] ++ icells l = icells l from rfl] at hown
    obtain ⟨g', c2, cs, rfl, hg, hblk, hsz, hcs⟩ := own_li (by omega) (by omega) hown
    rw [Nat.zero_add] at hsz hcs ⊢
    refine h (some ⟨g', 0, none⟩) c2 w2 ?_ (Or.inr ⟨g', 0, rfl, fun i hi' => ?_⟩) (fun ad e => by cases e; exact hg) (fun k hk hne => hgrow.block k hk (fun e => hne (by simp [Value.ownBlock] at e; exact e))) (fun B w0 hB hle => hB.grown hgrow (Nat.le_trans hle (Nat.le_of_lt (blk_lt hb))) (fun k hk => by simp [Value.ownBlock] at hk; omega))
    · rcases hown.2 with ⟨-, h1⟩ | ⟨_, cap, cur, hv, _, _, h1, h2, h3, _⟩
      · omega
      · cases hv; omega
    · intro j u hj
      obtain ⟨rfl, rfl⟩ : j = 0 ∧ u = .int .i64 (l.getD i 0) := by
        cases j with
        | zero => simp [ci] at hj; exact ⟨rfl, hj.symm⟩
        | succ j => simp [ci] at hj
      rw [blk_cell hblk]
      simpa using hcs i (by omega)
/-- The lists of a state lie from block B on. -/
def Fre (B : Nat) (a1 a2 a3 : Option Addr) (S : St) : Prop :=
  (S.n1 = 0 ∨ ∀ x, a1 = some x → B ≤ x.block) ∧ (S.n2 = 0 ∨ ∀ x, a2 = some x → B ≤ x.block) ∧ (S.n3 = 0 ∨ ∀ x, a3 = some x → B ≤ x.block)
/-- A state as an answer, its lists in memory of the call's own. -/
def StRet2 (w : World) (S : St) (e : Ending) (w' : World) : Prop :=
  ∃ a1 a2 a3 c1 c2 c3, e = .returned (stV S a1 a2 a3 c1 c2 c3) ∧ StAt w' a1 a2 a3 S ∧ Below w.heap.size w w' ∧ Fre w.heap.size a1 a2 a3 S
theorem bare_fre (B : Nat) (p r : Int) : Fre B none none none (bareS p r) := ⟨Or.inl rfl, Or.inl rfl, Or.inl rfl⟩
end Go.Proofs.YtgooegcmgejfpaaGreatDoor.Mac
