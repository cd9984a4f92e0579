import Derived.Test.YtfoigigbggickaaDoorPx02
import Derived.Test.YtfoigigbggickaaDoorRows
import Derived.Lib.LaidTab
import Derived.LaidLaws
import Derived.ChangeArms
import Derived.Stop.LaidErr
import Derived.Test.YtfoigigbggickaaDoorProg
import Derived.WalkKit
import Derived.ProofKit
import Derived.OpenShut
import Derived.ChangeOld
import Derived.ChangeVars
import Derived.WalkSmall
import Derived.WideKeyArgs
import Derived.Below
import Derived.Carry
import Derived.Test.YtfoigigbggickaaDoorCards
import Derived.Test.YtfoigigbggickaaDoorTie
import Derived.ChangeSlices
import Derived.ShutString
import Derived.Deep.DeepHandedRow
namespace Go.Proofs.YtfoigigbggickaaDoor.Par
open Go Go.RowKit Go.Proofs.YtfoigigbggickaaDoor.Mem Go.Proofs.YtfoigigbggickaaDoor.Syn Go.Proofs.YtfoigigbggickaaDoor.Parse
set_option linter.unusedVariables false
set_option linter.unusedSimpArgs false
attribute [local go_sem ↓] Go.wp_at_zero Go.wp_at_succ

theorem blkG {w w' : World} {g r : Nat} {o : Obj} (h : w.heap[r]? = some o) (hg : w.grownBy w' (some g)) (hne : r ≠ g) : w'.heap[r]? = some o := by
  rw [hg.block r (blk_lt h) (by intro e; injection e with e; exact hne e)]; exact h
set_option maxHeartbeats 8000000 in
set_option maxRecDepth 1000000 in
theorem lawQ (a : Option Addr) (t : List UInt8) (n c : Nat) (w : World) (hn : n = t.length) (hr : Rd w a t) (tw : TabW w) (tb : TabB w) :
    Calls Tryd.prog 3 #[.slice a n c] w fun e w' => e = .returned (.bool true) ∧ Below w.heap.size w w' := by
  have HN := Hid.mk hn
  have HR := Hid.mk hr
  have HTW := Hid.mk tw
  have HTB := Hid.mk tb
  clear hn hr tw tb
  by_cases hbig : 1048576 < n
  · have hb' : (1048576 : Int) < (n : Int) := by omega
    go_enter Tryd.func3, Tryd.ntmps3
    go_wp2
    go_ret
    exact ⟨rfl, Below.refl _ _⟩
  have hb' : decide ((1048576 : Int) < (n : Int)) = false := by simp; omega
  have hl : n ≤ 1048576 := by omega
  have hcnt := ans_cnt t
  have hlen := (ans_len t).1
  obtain ⟨L, hL⟩ : ∃ L, L = (ansP t).2.2 := ⟨_, rfl⟩
  obtain ⟨e, he⟩ : ∃ e, e = (ansP t).1 := ⟨_, rfl⟩
  obtain ⟨l, hle⟩ : ∃ l : Int, l = ((ansP t).2.1 : Int) := ⟨_, rfl⟩
  rw [← hL] at hcnt hlen
  obtain ⟨N1, hN1⟩ : ∃ N, N = L.length := ⟨_, rfl⟩
  have CS : Hid (∀ g w, Rd w (some ⟨g, 0, none⟩) t → Calls Tryd.prog 4 #[.slice (some ⟨g, 0, none⟩) n n] w fun r w' => ∃ a c lo, r = .returned (.agg #[.int .i64 e, .int .i64 l, .slice a N1 c]) ∧ PrAt w' a (prOf L) lo ∧ Below w.heap.size w w') := by
    intro g w h2
    refine (parseProgS _ t n n w HN.out (txt_copy HN.out h2)).mono ?_
    rintro r w' ⟨iv, cs, rfl, h3, h4, h5⟩
    rw [← hL] at h3 h4
    obtain ⟨a, c, lo, rfl, h6⟩ := pr_at h3 h4
    exact ⟨a, c, lo, by rw [he, hle, hN1], h6, h5⟩
  have CI : Hid (∀ g w, Rd w (some ⟨g, 0, none⟩) t → TabW w → TabB w → Calls Tryd.prog 6 #[.slice (some ⟨g, 0, none⟩) n n] w fun r w' => ∃ v, r = .returned (.agg #[.int .i64 e, .int .i64 l, v]) ∧ AA L w.heap.size w' v ∧ Below w.heap.size w w') := by
    intro g w h2 h3 h4
    refine (parseProgI _ t n n w HN.out (txt_copy HN.out h2) h3 h4).mono ?_
    rintro r w' ⟨iv, cs, s, rfl, h5, h6, h7⟩
    rw [← hL] at h5 h6
    exact ⟨iv, by rw [he, hle], ⟨cs, s, h5, h6⟩, h7⟩
  have SH : Hid (∀ B w v, AA L B w v → ∃ a c lo, v = .slice a N1 c ∧ PrAt w a (prOf L) lo) := by
    intro B w v h; rw [hN1]; exact h.pr
  have CE : Hid (∀ a b c d lo lo' w, PrAt w a (prOf L) lo → PrAt w b (prOf L) lo' → Calls Tryd.prog 7 #[.agg #[.int .i64 e, .int .i64 l, .slice a N1 c], .agg #[.int .i64 e, .int .i64 l, .slice b N1 d]] w fun r w' => r = .returned (.bool true) ∧ Below w.heap.size w w') := by
    intro a b c d lo lo' w h1 h2
    exact LawP.eqProgRes (prOf L) e l a b N1 c d lo lo' w hN1 h1 h2 (by show L.length ≤ _; omega) (by show Syn.cnt (prOf L) L.length ≤ _; omega)
  have CM : Hid (∀ B a c w, AA L B w (.slice a N1 c) → B ≤ w.heap.size → Calls Tryd.prog 10 #[.agg #[.int .i64 e, .int .i64 l, .slice a N1 c], .int .i64 1] w fun r w' => r = .returned (.int .i64 (kE L)) ∧ Mkd w' (.slice a N1 c) L ∧ Below B w w' ∧ KT w w') := by
    intro B a c w h1 h2
    obtain ⟨cs, s, h3, h4⟩ := h1
    exact markProgResE e l a N1 c hN1 h3 h4 (Nat.le_refl _) h2 (by omega) (by omega)
  have CH : Hid (∀ a c w, Mkd w (.slice a N1 c) L → Calls Tryd.prog 11 #[.agg #[.int .i64 e, .int .i64 l, .slice a N1 c], .int .i64 1] w fun r w' => r = .returned (.int .i64 (kE L)) ∧ Below w.heap.size w w') := by
    intro a c w h1
    exact heldProgResE e l a N1 c h1 (by omega) (by omega)
  have hz := kE_ge L
  obtain ⟨z, hzz⟩ : ∃ z, z = kE L := ⟨_, rfl⟩
  rw [← hzz] at hz CM CH
  have kneg : decide (z < 0) = false := by simp; omega
  have kneg2 : ¬ z < 0 := by omega
  clear hL he hle hN1 hcnt hlen hzz
  go_enter Tryd.func3, Tryd.ntmps3
  go_wp2_with fail
  refine (toByteS a t n c _ HN.out HR.out hl).mono ?_
  rintro r w1 ⟨rfl, b1, -, r1, z1⟩
  have B1 := Hid.mk b1
  have R1 := Hid.mk r1
  clear b1 r1
  go_wp2_with fail
  refine (CS.out _ _ R1.out).mono ?_
  rintro r w2 ⟨p1, k1, lo2, rfl, hI2, b2⟩
  have I2 := Hid.mk hI2
  have B2 := Hid.mk (below_then B1.out b2)
  clear hI2 b2 R1 B1
  go_wp2_with fail
  obtain ⟨W2, hW2⟩ : ∃ W2, W2 = w2.alloc (.cells #[.int .i64 e, .int .i64 l, .slice p1 N1 k1] 27) := ⟨_, rfl⟩
  rw [← hW2]
  have X2 : Hid (W2.heap[w2.heap.size]? = some (.cells #[.int .i64 e, .int .i64 l, .slice p1 N1 k1] 27)) := by rw [hW2]; exact blk_new _ _
  have D2 : Hid (Below w2.heap.size w2 W2) := by rw [hW2]; exact below_alloc' (Below.refl _ _) _
  have z2 : w2.heap.size < W2.heap.size := by rw [hW2]; simp
  have zB : w.heap.size ≤ w2.heap.size := B2.out.size
  clear hW2
  refine (toByteS a t n c _ HN.out (HR.out.below (below_then B2.out D2.out)) hl).mono ?_
  rintro r w3 ⟨rfl, b3, t3, r3, z3⟩
  have B3 := Hid.mk (below_then (below_then B2.out D2.out) b3)
  have D3 := Hid.mk (below_then D2.out b3)
  have X3 := Hid.mk (blk_below X2.out b3)
  have T3 := Hid.mk t3
  have R3 := Hid.mk r3
  clear b3 t3 r3 B2 D2 X2
  go_wp2_with fail
  refine (CI.out _ _ R3.out (HTW.out.below B3.out) (HTB.out.below B3.out)).mono ?_
  rintro r w4 ⟨v1, rfl, hA4, b4⟩
  obtain ⟨g1, h1, lo4, rfl, hI4⟩ := SH.out _ _ _ hA4
  have A4 := Hid.mk hA4
  have B4 := Hid.mk (below_then B3.out b4)
  have D4 := Hid.mk (below_then D3.out b4)
  have X4 := Hid.mk (blk_below X3.out b4)
  have T4 := Hid.mk (there_below T3.out z3 b4)
  have R4 := Hid.mk (R3.out.below b4)
  have z4 := b4.size
  clear hA4 hI4 b4 R3 T3 X3 D3 B3
  obtain ⟨W4, hW4⟩ : ∃ W4, W4 = w4.alloc (.cells #[.int .i64 e, .int .i64 l, .slice g1 N1 h1] 27) := ⟨_, rfl⟩
  have Y4 : Hid (W4.heap[w4.heap.size]? = some (.cells #[.int .i64 e, .int .i64 l, .slice g1 N1 h1] 27)) := by rw [hW4]; exact blk_new _ _
  have d4 : Below w4.heap.size w4 W4 := by rw [hW4]; exact below_alloc' (Below.refl _ _) _
  have z5 : w4.heap.size < W4.heap.size := by rw [hW4]; simp
  have A5 := Hid.mk (A4.out.below d4)
  have B5 := Hid.mk (below_then B4.out d4)
  have D5 := Hid.mk (below_then D4.out d4)
  have X5 := Hid.mk (blk_below X4.out d4)
  have T5 := Hid.mk (there_below T4.out (by omega) d4)
  have R5 := Hid.mk (R4.out.below d4)
  have hq : ∀ o, (w4.alloc o).cell? ⟨w2.heap.size, 0, none⟩ = some (.int .i64 e) ∧ (w4.alloc o).cell? ⟨w2.heap.size, 1, none⟩ = some (.int .i64 l) ∧ (w4.alloc o).cell? ⟨w2.heap.size, 2, none⟩ = some (.slice p1 N1 k1) := fun o => ⟨(blk_cell (blk_alloc X4.out o) 0).trans rfl, (blk_cell (blk_alloc X4.out o) 1).trans rfl, (blk_cell (blk_alloc X4.out o) 2).trans rfl⟩
  have hq0 := fun o => (hq o).1
  have hq1 := fun o => (hq o).2.1
  have hq2 := fun o => (hq o).2.2
  clear hq d4 A4 B4 D4 X4 T4 R4
  go_wp2_with fail
  rw [← hW4]
  clear hW4 hq0 hq1 hq2
  obtain ⟨j1, i1, lo5, e1, hI5⟩ := SH.out _ _ _ A5.out
  injection e1 with e1 _ e1'
  subst e1 e1'
  refine (CE.out _ _ _ _ _ _ _ hI5 (I2.out.below D5.out)).mono ?_
  rintro r w6 ⟨rfl, b6⟩
  have A6 := Hid.mk (A5.out.below b6)
  have B6 := Hid.mk (below_then B5.out b6)
  have D6 := Hid.mk (below_then D5.out b6)
  have X6 := Hid.mk (blk_below X5.out b6)
  have Y6 := Hid.mk (blk_below Y4.out b6)
  have T6 := Hid.mk (there_below T5.out (by omega) b6)
  have R6 := Hid.mk (R5.out.below b6)
  have z6 := b6.size
  clear b6 hI5 A5 B5 D5 X5 Y4 T5 R5
  go_wp2_with fail
  refine (toByteS a t n c _ HN.out (HR.out.below B6.out) hl).mono ?_
  rintro r w7 ⟨rfl, b7, -, r7, z7⟩
  have A7 := Hid.mk (A6.out.below b7)
  have B7 := Hid.mk (below_then B6.out b7)
  have D7 := Hid.mk (below_then D6.out b7)
  have X7 := Hid.mk (blk_below X6.out b7)
  have Y7 := Hid.mk (blk_below Y6.out b7)
  have T7 := Hid.mk (there_below T6.out (by omega) b7)
  have R7 := Hid.mk (R6.out.below b7)
  have V7 := Hid.mk r7
  clear b7 r7 A6 B6 D6 X6 Y6 T6 R6
  go_wp2_with fail
  refine (eqBytesP _ _ t n _ _ _ HN.out R7.out V7.out (by omega)).mono ?_
  rintro r w8 ⟨rfl, b8⟩
  have A8 := Hid.mk (A7.out.below b8)
  have B8 := Hid.mk (below_then B7.out b8)
  have D8 := Hid.mk (below_then D7.out b8)
  have X8 := Hid.mk (blk_below X7.out b8)
  have Y8 := Hid.mk (blk_below Y7.out b8)
  have T8 := Hid.mk (there_below T7.out (by omega) b8)
  have z8 := b8.size
  clear b8 A7 B7 D7 X7 Y7 T7 R7 V7
  go_wp2_with fail
  refine (markBytesP W2.heap.size n n 1 _ T8.out hl (by omega) (by omega)).mono ?_
  rintro r w9 ⟨rfl, g9⟩
  have A9 := Hid.mk (A8.out.ne g9 (by omega))
  have B9 : Hid (Below w.heap.size w w9) := B8.out.trans (below_of_grown g9 (by have := B8.out.size; omega) (by have := B8.out.size; omega))
  have D9 : Hid (Below w2.heap.size w2 w9) := D8.out.trans (below_of_grown g9 (by omega) (by have := D8.out.size; omega))
  have X9 := Hid.mk (blkG X8.out g9 (by omega))
  have Y9 := Hid.mk (blkG Y8.out g9 (by omega))
  have z9 := g9.size
  have kk : decide ((1 : Int) + (n : Int) < 0) = false := by simp; omega
  clear g9 A8 B8 D8 X8 Y8 T8
  have x0 : w9.cell? ⟨w2.heap.size, 0, none⟩ = some (.int .i64 e) := (blk_cell X9.out 0).trans rfl
  have x1 : w9.cell? ⟨w2.heap.size, 1, none⟩ = some (.int .i64 l) := (blk_cell X9.out 1).trans rfl
  have x2 : w9.cell? ⟨w2.heap.size, 2, none⟩ = some (.slice p1 N1 k1) := (blk_cell X9.out 2).trans rfl
  have y0 : w9.cell? ⟨w4.heap.size, 0, none⟩ = some (.int .i64 e) := (blk_cell Y9.out 0).trans rfl
  have y1 : w9.cell? ⟨w4.heap.size, 1, none⟩ = some (.int .i64 l) := (blk_cell Y9.out 1).trans rfl
  have y2 : w9.cell? ⟨w4.heap.size, 2, none⟩ = some (.slice g1 N1 h1) := (blk_cell Y9.out 2).trans rfl
  go_wp2_with fail
  clear x0 x1 x2 y0 y1 y2
  obtain ⟨j1, i1, lo9, e1, hI9⟩ := SH.out _ _ _ A9.out
  injection e1 with e1 _ e1'
  subst e1 e1'
  refine (CE.out _ _ _ _ _ _ _ hI9 (I2.out.below D9.out)).mono ?_
  rintro r w10 ⟨rfl, b10⟩
  have A10 := Hid.mk (A9.out.below b10)
  have B10 := Hid.mk (below_then B9.out b10)
  have D10 := Hid.mk (below_then D9.out b10)
  have X10 := Hid.mk (blk_below X9.out b10)
  have Y10 := Hid.mk (blk_below Y9.out b10)
  have z10 := b10.size
  clear b10 hI9 A9 B9 D9 X9 Y9
  have y0 : w10.cell? ⟨w4.heap.size, 0, none⟩ = some (.int .i64 e) := (blk_cell Y10.out 0).trans rfl
  have y1 : w10.cell? ⟨w4.heap.size, 1, none⟩ = some (.int .i64 l) := (blk_cell Y10.out 1).trans rfl
  have y2 : w10.cell? ⟨w4.heap.size, 2, none⟩ = some (.slice g1 N1 h1) := (blk_cell Y10.out 2).trans rfl
  go_wp2_with fail
  clear y0 y1 y2
  refine (CM.out w3.heap.size _ _ _ A10.out (by omega)).mono ?_
  rintro r w11 ⟨rfl, m11, f11, t11⟩
  have M11 := Hid.mk m11
  have B11 : Hid (Below w.heap.size w w11) := B10.out.trans (f11.mono (by omega))
  have D11 : Hid (Below w2.heap.size w2 w11) := D10.out.trans (f11.mono (by omega))
  have X11 := Hid.mk (t11 _ _ _ (by decide) (by decide) X10.out)
  have Y11 := Hid.mk (t11 _ _ _ (by decide) (by decide) Y10.out)
  have z11 := f11.size
  clear m11 f11 t11 A10 B10 D10 X10 Y10
  have y0 : w11.cell? ⟨w4.heap.size, 0, none⟩ = some (.int .i64 e) := (blk_cell Y11.out 0).trans rfl
  have y1 : w11.cell? ⟨w4.heap.size, 1, none⟩ = some (.int .i64 l) := (blk_cell Y11.out 1).trans rfl
  have y2 : w11.cell? ⟨w4.heap.size, 2, none⟩ = some (.slice g1 N1 h1) := (blk_cell Y11.out 2).trans rfl
  go_wp2_with fail
  clear y0 y1 y2
  refine (CH.out _ _ _ M11.out).mono ?_
  rintro r w12 ⟨rfl, b12⟩
  have B12 := Hid.mk (below_then B11.out b12)
  have D12 := Hid.mk (below_then D11.out b12)
  have X12 := Hid.mk (blk_below X11.out b12)
  have z12 := b12.size
  clear b12 M11 B11 D11 X11 Y11
  go_wp2_with fail
  refine (toByteS a t n c _ HN.out (HR.out.below B12.out) hl).mono ?_
  rintro r w13 ⟨rfl, b13, -, r13, z13⟩
  have B13 := Hid.mk (below_then B12.out b13)
  have D13 := Hid.mk (below_then D12.out b13)
  have X13 := Hid.mk (blk_below X12.out b13)
  have R13 := Hid.mk r13
  clear b13 r13 B12 D12 X12
  go_wp2_with fail
  refine (CI.out _ _ R13.out (HTW.out.below B13.out) (HTB.out.below B13.out)).mono ?_
  rintro r w14 ⟨v1, rfl, hA14, b14⟩
  obtain ⟨y1, s1, lo14, rfl, hI14⟩ := SH.out _ _ _ hA14
  have I14 := Hid.mk hI14
  have B14 := Hid.mk (below_then B13.out b14)
  have D14 := Hid.mk (below_then D13.out b14)
  have X14 := Hid.mk (blk_below X13.out b14)
  clear hA14 hI14 b14 R13 B13 D13 X13
  have hq : ∀ o, (w14.alloc o).cell? ⟨w2.heap.size, 0, none⟩ = some (.int .i64 e) ∧ (w14.alloc o).cell? ⟨w2.heap.size, 1, none⟩ = some (.int .i64 l) ∧ (w14.alloc o).cell? ⟨w2.heap.size, 2, none⟩ = some (.slice p1 N1 k1) := fun o => ⟨(blk_cell (blk_alloc X14.out o) 0).trans rfl, (blk_cell (blk_alloc X14.out o) 1).trans rfl, (blk_cell (blk_alloc X14.out o) 2).trans rfl⟩
  have hq0 := fun o => (hq o).1
  have hq1 := fun o => (hq o).2.1
  have hq2 := fun o => (hq o).2.2
  clear hq
  go_wp2_with fail
  clear hq0 hq1 hq2
  have d15 := below_alloc' (Below.refl w14.heap.size w14) (.cells #[.int .i64 e, .int .i64 l, .slice y1 N1 s1] 27)
  refine (CE.out _ _ _ _ _ _ _ (I14.out.below d15) (I2.out.below (below_then D14.out d15))).mono ?_
  rintro r w16 ⟨rfl, b16⟩
  have B16 := Hid.mk (below_then (below_then B14.out d15) b16)
  clear b16 d15
  go_wp2
  go_ret
  exact ⟨rfl, B16.out⟩
end Go.Proofs.YtfoigigbggickaaDoor.Par
namespace Go.Proofs.YtfoigigbggickaaDoor.LawPP
open Go Go.RowKit Go.Proofs.YtfoigigbggickaaDoor.Mem Go.Proofs.YtfoigigbggickaaDoor.Syn
set_option linter.unusedVariables false

/-- An array of strings, cell for cell. -/
theorem strs {H : Type} {enc : TypeId × Value → H} {P : Program} {w : World} {base : Nat} {sp : Nat → Bool} {held : Bool} {fuel : Nat} {t e : TypeId} {n : Nat} {cs : List Value} {ds : List (DataW H)} {p : List MemPlace}
    (ht : P.underlying t = some (.array n e)) (he : P.underlying e = some .string) (hce : P.cellsOf e = 1) (hct : P.cellsOf t = n)
    (h : DataW.trod enc P w base sp held fuel t cs = some (.agg ds, p)) : ∀ i, i < n → ∃ s : ByteArray, cs[i]? = some (.string s) ∧ ds[i]? = some (.lit (.string s.data.toList)) := by
  cases fuel with
  | zero => simp [DataW.trod] at h
  | succ fuel =>
    simp only [DataW.trod, ht, hce, hct] at h
    split at h
    · obtain ⟨xs, hm, hx⟩ := Option.map_eq_some_iff.1 h
      have hds : ds = xs.map (·.1) := by
        have := congrArg Prod.fst hx
        simp only [DataW.agg.injEq] at this
        exact this.symm
      intro i hin
      obtain ⟨y, hy, hf⟩ := Lib.mapM_at hm i i (by simp [hin])
      obtain ⟨s, a0, b0, -⟩ := DataW.trod_string he hf
      refine ⟨s, ?_, ?_⟩
      · have := congrArg (·[0]?) a0
        simpa [List.getElem?_take, List.getElem?_drop] using this
      · rw [hds, List.getElem?_map, hy, b0]
        rfl
    · cases h
/-- An array of records of three truths and three numbers, cell for cell. -/
theorem twData : (Rows.laid_loop_example_s0023_impl_tokenWords : DataW Unit) = .agg (tw.map fun s => .lit (.string s)) := by kernel_rfl
theorem gTw : Tryd.prog.globalNamed "loop.example/s0023/impl.tokenWords" = some 0 := by kernel_rfl
theorem gTwType : (Tryd.prog.globals[0]?).map (·.type) = some 114 := by kernel_rfl
theorem cTwT : Tryd.prog.cellsOf 114 = 50 := by kernel_rfl
theorem cTw : Tryd.prog.cellsOf 9 = 1 := by kernel_rfl
theorem tabW {W : World} {rest : List (String × DataW Unit)} (h : laidMet Tryd.prog (("loop.example/s0023/impl.tokenWords", Rows.laid_loop_example_s0023_impl_tokenWords) :: rest) W) : TabW W := by
  obtain ⟨ps, ⟨g', t', cs, fuel, p, q, hg', ht', hvar, hd, _, _⟩, _⟩ := h
  obtain rfl := Option.some.inj (gTw.symm.trans hg')
  obtain rfl := Option.some.inj (gTwType.symm.trans ht')
  rw [twData] at hd
  intro m hm
  obtain ⟨s, a0, hz⟩ := strs Tryd.underlying114 Tryd.underlying9 cTw cTwT hd m hm
  have hl : m < tw.length := hm
  have hs : twAt m = tw[m] := by unfold twAt; simp [List.getD, hl]
  rw [List.getElem?_map, List.getElem?_eq_getElem hl] at hz
  simp only [Option.map_some, Option.some.injEq, DataW.lit.injEq, Lit.string.injEq] at hz
  have hv := World.var?_cell gTw hvar m
  rw [hv, hs, hz]
  simp only [Array.getElem?_toList] at a0
  rw [a0]
theorem cIn : Tryd.prog.cellsOf 3 = 1 := by kernel_rfl
theorem gBs : Tryd.prog.globalNamed "loop.example/s0023/impl.binStrengths" = some 1 := by kernel_rfl
theorem gBsType : (Tryd.prog.globals[1]?).map (·.type) = some 127 := by kernel_rfl
theorem cBsT : Tryd.prog.cellsOf 127 = 8 := by kernel_rfl
theorem bsIs : (Rows.laid_loop_example_s0023_impl_binStrengths : DataW Unit) = Lib.tabData .i64 [5, 4, 4, 3, 3, 3, 2, 1] := by kernel_rfl
theorem tabB {W : World} {rest : List (String × DataW Unit)} (h : laidMet Tryd.prog (("loop.example/s0023/impl.binStrengths", Rows.laid_loop_example_s0023_impl_binStrengths) :: rest) W) : TabB W := by
  rw [bsIs] at h
  have ht := Lib.tabIs_of_head gBs gBsType Tryd.underlying127 Tryd.underlying3 cIn cBsT h
  intro m hm
  rw [ht.cell gBs m hm]
  have : m = 0 ∨ m = 1 ∨ m = 2 ∨ m = 3 ∨ m = 4 ∨ m = 5 ∨ m = 6 ∨ m = 7 := by omega
  rcases this with rfl | rfl | rfl | rfl | rfl | rfl | rfl | rfl <;> rfl
theorem tablesQ {W : World} (h : laidMet Tryd.prog Rows.fnExactParseProgRow.laid W) : TabW W ∧ TabB W := by
  have h0 : laidMet Tryd.prog [("loop.example/s0023/impl.tokenWords", Rows.laid_loop_example_s0023_impl_tokenWords), ("loop.example/s0023/impl.binStrengths", Rows.laid_loop_example_s0023_impl_binStrengths)] W := h
  exact ⟨tabW h0, tabB h0.tail⟩
end Go.Proofs.YtfoigigbggickaaDoor.LawPP
namespace Go.Proofs.YtfoigigbggickaaDoor.RowV
open Go.ChangeShapes Go.WideShapes Go.ChangeAt Go.RowKit
set_option linter.unusedVariables false

/-- A named variable's type can be read. -/
def varOk (P : Program) (n : String) : Bool :=
  match P.globalNamed n with
  | none => true
  | some g => match (P.globals[g]?).map (·.type) with
    | none => true
    | some t => P.readableRec t && decide (t < P.types.size)
theorem var_lt {P : Program} {W : World} {n : String} {g : Nat} {cs : Array Value} (hg : P.globalNamed n = some g) (hv : W.var? P n = some cs) : g < W.heap.size := by
  unfold World.var? at hv
  simp only [hg, Option.bind_some] at hv
  split at hv
  · rename_i h; exact (Array.getElem?_eq_some_iff.1 h).1
  · cases hv
/-- What a call that writes nothing old leaves of the named variables. -/
theorem vars_stay {H : Type} {enc : TypeId × Value → H} {P : Program} (hl : laidOutB P = true) {W W' : World} (hb : Below W.heap.size W W') : ∀ {ns : List String} {gs : List (DataW H)} {q : List MemPlace}, DataW.TrodVars enc P W (fun _ => true) ns gs q → ns.all (varOk P) = true → DataW.TrodVars enc P W' (fun b => decide (b < W.heap.size)) ns gs q
  | [], [], q, h, _ => h
  | [], _ :: _, q, h, _ => by simp [DataW.TrodVars] at h
  | _ :: _, [], q, h, _ => by simp [DataW.TrodVars] at h
  | n :: ns, d :: ds, q, h, ha => by
    obtain ⟨g, t, cs, fuel, p, q', h1, h2, h3, h4, h5, h6⟩ := h
    rw [List.all_cons, Bool.and_eq_true] at ha
    have ok := ha.1
    unfold varOk at ok
    rw [h1] at ok
    simp only [h2, Bool.and_eq_true, decide_eq_true_eq] at ok
    have hlt := DataW.trod_lt fuel _ _ _ h4
    refine ⟨g, t, cs, fuel, p, q', h1, h2, var?_below hb h1 (var_lt h1 h3) h3, ?_, vars_stay hl hb h5 ha.2, h6⟩
    exact DataW.trod_stays (Go.kids_book hl ok.1) (Go.book_sized ok.1) (fun h => by cases h) ⟨ok.2, Go.book_self t⟩ h4 (fun x hx => hb.same (hlt x hx)) (fun x hx => by simpa using hlt x hx)
theorem vars_len {H : Type} {enc : TypeId × Value → H} {P : Program} {W : World} {sp : Nat → Bool} : ∀ {ns : List String} {gs : List (DataW H)} {q : List MemPlace}, DataW.TrodVars enc P W sp ns gs q → gs.length = ns.length
  | [], [], q, h => rfl
  | [], _ :: _, q, h => by simp [DataW.TrodVars] at h
  | _ :: _, [], q, h => by simp [DataW.TrodVars] at h
  | n :: ns, d :: ds, q, h => by
    obtain ⟨g, t, cs, fuel, p, q', h1, h2, h3, h4, h5, h6⟩ := h
    simp [vars_len h5]
end Go.Proofs.YtfoigigbggickaaDoor.RowV
namespace Go.Proofs.YtfoigigbggickaaDoor.fnExactParseProg
open Go.ChangeShapes Go.WideShapes Go.ChangeAt Go.RowKit
set_option linter.unusedVariables false

theorem own : ownKnob Tryd.prog.godebug = none := by kernel_rfl
theorem laidOut : laidOutB Tryd.prog = true := by kernel_rfl
theorem cellsB : Tryd.prog.cellsOf 5 = 1 := by kernel_rfl
set_option maxRecDepth 100000 in
/-- Bytes that came in. -/
theorem bytes_in {H : Type} {enc : TypeId × Value → H} {W : World} {base : Nat} {v : Value} {d : DataW H} {p : List MemPlace} (hval : Value.okWide Tryd.prog W .any base 22 v) (h : DataW.Trod enc Tryd.prog W 0 (fun _ => true) true 22 v d p) :
    ∃ (a : Option Addr) (t : List UInt8) (n c : Nat), v = .slice a n c ∧ n = t.length ∧ n ≤ c ∧ Parse.Rd W a t := by
  obtain ⟨a1, len, cap, rfl⟩ := okWide_slice Tryd.underlying22 hval
  obtain ⟨fuel, hf⟩ := h
  rcases open_ints Tryd.underlying22 Tryd.underlying5 cellsB hf with ⟨hcs, -⟩ | ⟨a, len', cap', zs, hcs, _, hl, hm, hz, -, hcell, hwz⟩
  · simp [Value.cells] at hcs
    obtain ⟨rfl, rfl, rfl⟩ := hcs
    exact ⟨none, [], 0, 0, rfl, rfl, Nat.le_refl _, fun j hj => by simp at hj⟩
  · simp [Value.cells] at hcs
    obtain ⟨rfl, rfl, rfl⟩ := hcs
    simp only [if_true] at hz
    have hlen : ((zs.take len).map fun n => UInt8.ofNat n.toNat).length = len := by simp; omega
    refine ⟨some a, (zs.take len).map fun n => UInt8.ofNat n.toNat, len, cap, rfl, hlen.symm, hl, fun j hj => ?_⟩
    rw [hlen] at hj
    obtain ⟨ab, ao, spot⟩ := a
    have hspot : spot = none := by simpa [Addr.add] using World.cell?_spot (hcell 0 (by omega))
    subst hspot
    have hcj := hcell j (by omega)
    rw [Addr.add_lit] at hcj
    refine ⟨ab, ao, rfl, ?_⟩
    rw [hcj]
    have hr := range_u8 hwz j
    have hjz : j < zs.length := by omega
    simp only [List.getElem_map, List.getElem_take]
    have e : zs.getD j 0 = zs[j] := by simp [List.getD, hjz]
    have hr' : 0 ≤ zs[j] ∧ zs[j] ≤ 255 := by simpa [hjz] using hr
    rw [e]
    generalize zs[j] = z at hr'
    have hz : (z.toNat : Int) = z := Int.toNat_of_nonneg hr'.1
    have hm : z.toNat % 256 = z.toNat := Nat.mod_eq_of_lt (by omega)
    simp [hm, hz]

set_option maxRecDepth 100000 in
theorem contract (H : Type) (enc : TypeId × Value → H) (W : World) (base : Nat) (args : Array Value) (ds gs : List (DataW H)) (before : List MemPlace)
    (hval : ∀ (j : Nat) t v, Tryd.f3.params[j]? = some t → args[j]? = some v → Value.okWide Tryd.prog W .any base t v)
    (hW : DataW.Whole enc Tryd.prog Tryd.f3.params.toList Rows.fnExactParseProgSpec.vars false W args.toList ds gs before) (hL : laidMetH Tryd.prog Rows.fnExactParseProgRow.laid W) :
    Calls Tryd.prog 3 args W fun e W' => ∃ v, e = .returned v ∧ Rows.fnExactParseProgSpec.post enc Tryd.prog Tryd.f3 false true false false W args v W' := by
  have hW' := hW
  obtain ⟨p, q, hA0, hV, rfl, hfz, hnd⟩ := hW
  have hA : DataW.TrodAll enc Tryd.prog W 0 (fun _ => true) true Tryd.f3.params.toList args.toList ds p := hA0
  rw [Tryd.params3] at hA hval
  obtain ⟨v0, vs0, d0, ds0, p0, q0, hargs, rfl, rfl, h0, r0⟩ := trodAll_cons hA
  obtain ⟨rfl, rfl, rfl⟩ := trodAll_nil r0
  obtain rfl : args = #[v0] := by cases args; simp_all
  obtain ⟨g1, g2, hgs⟩ : ∃ g1 g2, gs = [g1, g2] := by
    match gs, RowV.vars_len hV with
    | [g1, g2], _ => exact ⟨g1, g2, rfl⟩
  subst hgs
  have k0 := h0
  have lt0 : ∀ x ∈ p0, x.block < W.heap.size := by obtain ⟨m, hm⟩ := k0; exact DataW.trod_lt m _ _ _ hm
  obtain ⟨a, t, n, c, rfl, hn, hc, hr⟩ := bytes_in (hval 0 22 v0 rfl rfl) h0
  clear hA0
  refine (Par.lawQ a t n c W hn hr (LawPP.tablesQ hL).1 (LawPP.tablesQ hL).2).mono fun e W' ⟨he, bel⟩ => ?_
  subst he
  exact ⟨_, rfl, _, _, _, [], _, _, hW', trodAll_mk1 (shut_bool Tryd.underlying4 _), (trodAll_cons_mk (Below.trod laidOut (by kernel_rfl) (of_decide_eq_true (by kernel_rfl)) k0 bel lt0) trodAll_mk0), RowV.vars_stay laidOut bel hV (by kernel_rfl), bel.frame _, fun h => by cases h⟩

def litVal : DataW Unit → Value
  | .lit (.int k z) => Value.int k z
  | .lit (.bool b) => Value.bool b
  | .lit (.string l) => Value.string ⟨l.toArray⟩
  | _ => Value.bool false
def litCells : DataW Unit → Array Value
  | .agg l => (l.flatMap fun
    | .agg m => m.map litVal
    | d => [litVal d]).toArray
  | _ => #[]
def setB (h : Array Obj) (i : Nat) (c : Array Value) : Array Obj := h.modify i fun
  | .cells _ t frozen => .cells c t frozen
  | o => o
/-- A world for the witness: the settled one, the tables holding what their initialisers lay. -/
noncomputable def laidWorld (os : Os) : World :=
  { World.holding Tryd.prog os ⟨#[], #[], []⟩ with heap := setB (setB (World.holding Tryd.prog os ⟨#[], #[], []⟩).heap 0 (litCells Rows.laid_loop_example_s0023_impl_tokenWords)) 1 (litCells Rows.laid_loop_example_s0023_impl_binStrengths) }
theorem laid_met (os : Os) : laidMet Tryd.prog Rows.fnExactParseProgRow.laid ((laidWorld os).forCall (fun _ _ => 0) ⟨#[], #[.slice none 0 0], []⟩).memory :=
  laidMet_of_run' 8 (by kernel_rfl) (by kernel_rfl)
theorem reads (os : Os) {H : Type} (enc : TypeId × Value → H) : ∃ x, DataW.whole enc Tryd.prog ((laidWorld os).forCall (fun _ _ => 0) ⟨#[], #[.slice none 0 0], []⟩).memory Tryd.f3.params.toList Rows.fnExactParseProgSpec.vars false #[Value.slice none 0 0].toList 8 = some x :=
  Option.isSome_iff_exists.1 (by kernel_rfl)

set_option maxRecDepth 100000 in
theorem lifted (os : Os) (started : os.Started) (H : Type) (enc : TypeId × Value → H) (F : Stop.Interp) :
    ReturnsInHanded {} Tryd.checked os 3 .any ((OpenSpec.ofChange Rows.fnExactParseProgSpec).preRow enc Tryd.prog Tryd.f3 Rows.fnExactParseProgRow.domain false Rows.fnExactParseProgRow.laid) (((OpenSpec.ofChange Rows.fnExactParseProgSpec).at F).post enc Tryd.prog Tryd.f3 false true false false) := by
  obtain ⟨x, hx⟩ := reads os enc
  refine returnsInHanded_of_row (C := Tryd.checked) (s := OpenSpec.ofChange Rows.fnExactParseProgSpec) own started (by kernel_rfl) Tryd.func3
    (witness_row_at (enc := enc) (C := Tryd.checked) false (laidWorld os) #[.slice none 0 0] rfl (by kernel_rfl) (by kernel_rfl) (by kernel_rfl)
      (OpenSpec.preRow_of_cond 8 hx (by kernel_rfl) (fun k hk => by cases hk) (by kernel_rfl) (laid_met os))) ?_
  intro W base args ds gs before hval hW _ _ _ hL _ _
  exact contract H enc W base args ds gs before hval hW hL

theorem said : Rows.FnExactParseProgSaid :=
  OpenClaim.holds_of_cond 3 Tryd.f3 rfl rfl rfl rfl rfl rfl rfl ⟨rfl, rfl, rfl, rfl, rfl⟩ rfl rfl rfl rfl rfl (by kernel_rfl) Tryd.func3 (by kernel_rfl)
    (of_decide_eq_true (by kernel_rfl)) (by unfold Func.isWrapper; first | (rw [if_pos (by decide +kernel)]; kernel_rfl) | (rw [if_neg (by decide +kernel)]; exact ⟨rfl, rfl⟩))
    (fun os started H enc _ F => by rw [OpenClaim.pre_eq_preRow]; exact lifted os started H enc F)

/-- No parameter wants a stand-in; the program's own looks. -/
theorem plain (f : FuncId) (fn : Func) (hf : Tryd.pinned.checked.prog.funcNamed "loop.example/s0023/laws.FnExactParseProg" = some f) (hfn : Tryd.pinned.checked.prog.funcs[f]? = some fn) :
    true = Tryd.pinned.checked.prog.looks [] ∧ ∀ (j : Nat) t, fn.params[j]? = some t → Tryd.pinned.checked.prog.wantsStandIn t = false := by
  obtain rfl : f = 3 := Option.some.inj ((show Tryd.prog.funcNamed "loop.example/s0023/laws.FnExactParseProg" = some 3 by kernel_rfl).symm.trans hf) |>.symm
  obtain rfl : fn = Tryd.f3 := (Option.some.inj (Tryd.func3.symm.trans hfn)).symm
  refine ⟨by kernel_rfl, fun j t ht => ?_⟩
  rw [Tryd.params3] at ht
  obtain rfl : t = 22 := by simpa using Array.mem_of_getElem? ht
  exact (show Tryd.prog.wantsStandIn 22 = false by kernel_rfl)
end Go.Proofs.YtfoigigbggickaaDoor.fnExactParseProg
namespace Go.Proofs.YtfoigigbggickaaDoor
theorem fnExactParseProg_card : Rows.FnExactParseProgCardSaid :=
  Claim7.holds_tied_plain_at .later [] _ _ _ _ fnExactParseProg.said (fun _ h => by cases h) (by kernel_rfl) (fun _ h => by cases h) fnExactParseProg_row_tie rfl ⟨rfl, rfl⟩ (by kernel_rfl) rfl fnExactParseProg.plain (by kernel_rfl)
#print axioms fnExactParseProg_card
end Go.Proofs.YtfoigigbggickaaDoor
