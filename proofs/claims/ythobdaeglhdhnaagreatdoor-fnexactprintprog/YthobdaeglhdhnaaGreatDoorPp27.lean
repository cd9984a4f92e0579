import Derived.Test.YthobdaeglhdhnaaGreatDoorPp25
import Derived.Test.YthobdaeglhdhnaaGreatDoorPp26
import Derived.Test.YthobdaeglhdhnaaGreatDoorPp15
import Derived.Lib.SmallJoins
namespace Go.Proofs.YthobdaeglhdhnaaGreatDoor.Syn
open Go Go.RowKit Go.Proofs.YthobdaeglhdhnaaGreatDoor Go.Proofs.YthobdaeglhdhnaaGreatDoor.Mem
open Go.Proofs.YthobdaeglhdhnaaGreatDoor.Print (Own infoB byteCells_one)
set_option linter.unusedVariables false
set_option linter.unusedSimpArgs false
attribute [local go_sem ↓] Go.wp_at_zero Go.wp_at_succ

theorem sp_len {i : It} (a : -999999999 ≤ i.lo) (b : i.lo ≤ 999999999) (c : -999999999 ≤ i.hi) (d : i.hi ≤ 999999999) : (spanT i).length ≤ 60 := by
  have := itoa_len' a b
  have := itoa_len' c d
  simp only [spanT, List.length_append, List.length_cons, List.length_nil]
  omega
theorem nm_len {n : List UInt8} (h : nmB n true = true) : n.length ≤ 16 := name_len (by simpa [nmB] using h)
theorem itB_parts {i : It} (h : itB i = true) : inR i.k 1 9 = true ∧ nmB i.n (sh i.k.toNat).n = true ∧ exB i.E i.nE (sh i.k.toNat).e = true ∧ exB i.F i.nF (sh i.k.toNat).f = true ∧ fldB i.K (sh i.k.toNat).k = true ∧ fldB i.lo (sh i.k.toNat).lo = true ∧ fldB i.hi (sh i.k.toNat).hi = true := by
  unfold itB at h
  simp only [Bool.and_eq_true] at h
  exact h
theorem ex_tree {E : Nat → Po} {n : Nat} (h : exB E n true = true) : ∃ t, stk E n = some [t] := exprB_tree (by simpa [exB] using h)
theorem fld1 {x : Int} (h : fldB x 1 = true) : 0 ≤ x ∧ x ≤ 15 := by simpa [fldB, inR] using h
theorem fld2 {x : Int} (h : fldB x 2 = true) : 0 ≤ x ∧ x ≤ 999999999 := by simpa [fldB, inR] using h
theorem fld3 {x : Int} (h : fldB x 3 = true) : -999999999 ≤ x ∧ x ≤ 999999999 := by simpa [fldB, inR] using h
/-- A valid item is printed. -/
theorem itemAllI (i : It) (l : Lo) (hv : itB i = true) (hnE : i.nE ≤ 2000) (hnF : i.nF ≤ 2000) :
    (itT i).length ≤ 200000 ∧ ∀ (B : Nat) (bs : List UInt8) (x : Value) (w : World), ItOn B w i l → Own B w x bs → B ≤ w.heap.size → Ps B w → bs.length ≤ 300000000 →
    Calls Tryz.prog 18 #[x, .agg #[.int .i64 i.k, .string ⟨i.n.toArray⟩, .slice l.aE i.nE l.cE, .slice l.aF i.nF l.cF, .int .i64 i.K, .int .i64 i.lo, .int .i64 i.hi]] w (App B x w (bs ++ itT i)) := by
  obtain ⟨h0, h1, h2, h3, h4, h5, h6⟩ := itB_parts hv
  have hk : i.k = 1 ∨ i.k = 2 ∨ i.k = 3 ∨ i.k = 4 ∨ i.k = 5 ∨ i.k = 6 ∨ i.k = 7 ∨ i.k = 8 ∨ i.k = 9 := by
    simp [inR] at h0; omega
  have htl := tw_len (15 + i.k.toNat)
  rcases hk with e | e | e | e | e | e | e | e | e <;> rw [e] at h1 h2 h3 h4 h5 h6 htl <;> rw [e] <;> clear h0 hv
  · obtain ⟨tE, hE⟩ := ex_tree h2
    have hn := nm_len h1
    have et : itT i = twAt 16 ++ [32] ++ (i.n ++ [32, 61, 32] ++ tE.txt) := by simp [itT, e, exprT_eq hE]
    have := tree_len hE
    rw [et]
    refine ⟨by simp only [List.length_append, List.length_cons, List.length_nil]; have := tw_len 16; omega, fun B bs x w a b c d f => ?_⟩
    have key := item1 i l B bs x w tE hE hn hnE hnF a b c d f
    rwa [List.append_assoc, List.append_assoc, ← List.append_assoc (twAt 16)] at key
  · obtain ⟨tE, hE⟩ := ex_tree h2
    have et : itT i = twAt 17 ++ [32] ++ (tE.txt) := by simp [itT, e, exprT_eq hE]
    have := tree_len hE
    rw [et]
    refine ⟨by simp only [List.length_append, List.length_cons, List.length_nil]; have := tw_len 17; omega, fun B bs x w a b c d f => ?_⟩
    have key := item2 i l B bs x w tE hE hnE hnF a b c d f
    rwa [List.append_assoc, List.append_assoc, ← List.append_assoc (twAt 17)] at key
  · obtain ⟨tE, hE⟩ := ex_tree h2
    have et : itT i = twAt 18 ++ [32] ++ (tE.txt) := by simp [itT, e, exprT_eq hE]
    have := tree_len hE
    rw [et]
    refine ⟨by simp only [List.length_append, List.length_cons, List.length_nil]; have := tw_len 18; omega, fun B bs x w a b c d f => ?_⟩
    have key := item3 i l B bs x w tE hE hnE hnF a b c d f
    rwa [List.append_assoc, List.append_assoc, ← List.append_assoc (twAt 18)] at key
  · obtain ⟨tE, hE⟩ := ex_tree h2
    obtain ⟨k0, k1⟩ := fld3 h4
    obtain ⟨l0, l1⟩ := fld3 h5
    obtain ⟨u0, u1⟩ := fld3 h6
    have et : itT i = twAt 19 ++ [32] ++ (tE.txt ++ [32, 102, 114, 111, 109] ++ [32] ++ Lib.itoa i.K ++ spanT i) := by simp [itT, e, exprT_eq hE]
    have := tree_len hE
    have := itoa_len' k0 k1
    have := sp_len l0 l1 u0 u1
    rw [et]
    refine ⟨by simp only [List.length_append, List.length_cons, List.length_nil]; have := tw_len 19; omega, fun B bs x w a b c d f => ?_⟩
    have key := item4 i l B bs x w tE hE k0 k1 l0 l1 u0 u1 hnE hnF a b c d f
    rwa [List.append_assoc, List.append_assoc, ← List.append_assoc (twAt 19)] at key
  · obtain ⟨tE, hE⟩ := ex_tree h2
    obtain ⟨tF, hF⟩ := ex_tree h3
    have et : itT i = twAt 20 ++ [32] ++ (tE.txt ++ [32, 116, 104, 101, 110, 32] ++ tF.txt) := by simp [itT, e, exprT_eq hE, exprT_eq hF]
    have := tree_len hE
    have := tree_len hF
    rw [et]
    refine ⟨by simp only [List.length_append, List.length_cons, List.length_nil]; have := tw_len 20; omega, fun B bs x w a b c d f => ?_⟩
    have key := item5 i l B bs x w tE hE tF hF hnE hnF a b c d f
    rwa [List.append_assoc, List.append_assoc, ← List.append_assoc (twAt 20)] at key
  · obtain ⟨k0, k1⟩ := fld1 h4
    obtain ⟨l0, l1⟩ := fld1 h5
    have et : itT i = twAt 21 ++ [32] ++ ([tagB i.K, 32, tagB i.lo]) := by simp [itT, e]
    rw [et]
    refine ⟨by simp only [List.length_append, List.length_cons, List.length_nil]; have := tw_len 21; omega, fun B bs x w a b c d f => ?_⟩
    have key := item6 i l B bs x w k0 k1 l0 l1 hnE hnF a b c d f
    rwa [List.append_assoc, List.append_assoc, ← List.append_assoc (twAt 21)] at key
  · obtain ⟨k0, k1⟩ := fld2 h4
    have et : itT i = twAt 22 ++ [32] ++ (Lib.itoa i.K) := by simp [itT, e]
    have := itoa_len' (show -999999999 ≤ i.K by omega) k1
    rw [et]
    refine ⟨by simp only [List.length_append, List.length_cons, List.length_nil]; have := tw_len 22; omega, fun B bs x w a b c d f => ?_⟩
    have key := item7 i l B bs x w k0 k1 hnE hnF a b c d f
    rwa [List.append_assoc, List.append_assoc, ← List.append_assoc (twAt 22)] at key
  · obtain ⟨tE, hE⟩ := ex_tree h2
    obtain ⟨l0, l1⟩ := fld3 h5
    obtain ⟨u0, u1⟩ := fld3 h6
    have et : itT i = twAt 23 ++ [32] ++ (tE.txt ++ spanT i) := by simp [itT, e, exprT_eq hE]
    have := tree_len hE
    have := sp_len l0 l1 u0 u1
    rw [et]
    refine ⟨by simp only [List.length_append, List.length_cons, List.length_nil]; have := tw_len 23; omega, fun B bs x w a b c d f => ?_⟩
    have key := item8 i l B bs x w tE hE l0 l1 u0 u1 hnE hnF a b c d f
    rwa [List.append_assoc, List.append_assoc, ← List.append_assoc (twAt 23)] at key
  · obtain ⟨tE, hE⟩ := ex_tree h2
    obtain ⟨k0, k1⟩ := fld2 h4
    have et : itT i = twAt 24 ++ [32] ++ (tE.txt ++ [32, 109, 111, 115, 116] ++ [32] ++ Lib.itoa i.K) := by simp [itT, e, exprT_eq hE]
    have := tree_len hE
    have := itoa_len' (show -999999999 ≤ i.K by omega) k1
    rw [et]
    refine ⟨by simp only [List.length_append, List.length_cons, List.length_nil]; have := tw_len 24; omega, fun B bs x w a b c d f => ?_⟩
    have key := item9 i l B bs x w tE hE k0 k1 hnE hnF a b c d f
    rwa [List.append_assoc, List.append_assoc, ← List.append_assoc (twAt 24)] at key
/-- The text of a program's first k items. -/
def progT (P : Pr) : Nat → List UInt8
  | 0 => []
  | k + 1 => progT P k ++ itT (P.I k) ++ [59, 10]
theorem own_empty1 (w : World) (o : Obj) : Own (w.heap.size + 1) ((w.alloc o).alloc (.cells #[] 5)) (.slice (some ⟨w.heap.size + 1, 0, none⟩) 0 0) [] := by
  have := Print.own_empty (w.alloc o) _ rfl
  rw [World.size_alloc] at this
  exact this
theorem prog_len {P : Pr} {k : Nat} (h : ∀ j, j < k → (itT (P.I j)).length ≤ 200000) : (progT P k).length ≤ 200002 * k := by
  induction k with
  | zero => simp [progT]
  | succ k ih =>
    have h1 := ih fun j hj => h j (by omega)
    have h2 := h k (by omega)
    simp only [progT, List.length_append, List.length_cons, List.length_nil]
    omega
theorem allB_at {n : Nat} {f : Nat → Bool} (h : allB n f = true) {k : Nat} (hk : k < n) : f k = true := by
  cases hf : f k with
  | true => rfl
  | false => rw [allB_false hk hf] at h; cases h
/-- What PrintProg answers. -/
def prnT (P : Pr) : List UInt8 := if prB P = true then progT P P.n else []
set_option maxHeartbeats 3200000 in
set_option maxRecDepth 100000 in
theorem printPI (P : Pr) (a : Option Addr) (c : Nat) (L : Nat → Lo) (w : World) (h : PrAt w a P L) (hn : P.n ≤ 1048576) (hc : cnt P P.n ≤ 1048576) (hT : Tabs w) (hS : TabS w) (hp : Lib.TabIs Tryz.prog w "internal/strconv.uint64pow10" .u64 Lib.pow10Tab) :
    Calls Tryz.prog 7 #[.agg #[.slice a P.n c]] w fun e w' => ∃ v', e = .returned v' ∧ Own w.heap.size w' v' (prnT P) ∧ Below w.heap.size w w' := by
  have H := Hid.mk h
  have HT := Hid.mk hT
  have HP : Hid (Ps w.heap.size w) := ⟨fun w' hb => hT.below hb, Lib.tabBelow_of_tabIs hp⟩
  have vOK := Hid.mk fun w' (hb : Below w.heap.size w w') => validPI P a c L w' (h.below hb) hn hc (hT.below hb) (hS.below hb)
  clear h hT hS hp
  have hB0 := Hid.mk (below_alloc' ((Below.refl w.heap.size w).alloc (Nat.le_refl _) (.cells #[.slice a P.n c] 30)) (.cells #[] 5))
  have ho0 : Hid (Own w.heap.size ((w.alloc (.cells #[.slice a P.n c] 30)).alloc (.cells #[] 5)) (.slice (some ⟨w.heap.size + 1, 0, none⟩) 0 0) []) := Joins.ownsRow_le (own_empty1 w _) (Nat.le_succ _)
  go_enter Tryz.func7, Tryz.ntmps7
  go_wp2_with fail
  refine (vOK.out _ hB0.out).mono ?_
  rintro e w1 ⟨rfl, hb⟩
  have HB := Hid.mk (below_then hB0.out hb)
  have HO := Hid.mk (own_bel' ho0.out hb)
  have A1 := Hid.mk (blk_below (blk_alloc (blk_new w _) _) hb)
  clear hb hB0 ho0 vOK
  cases hg : prB P with
  | false =>
    have hv : Hid (prnT P = []) := by unfold Hid prnT; rw [hg]; rfl
    go_wp2
    go_ret
    exact ⟨_, rfl, by rw [hv.out]; exact HO.out, HB.out⟩
  | true =>
    have hv : Hid (prnT P = progT P P.n) := by unfold Hid prnT; rw [hg]; rfl
    have hg' := hg
    simp only [prB, Bool.and_eq_true, decide_eq_true_eq] at hg'
    obtain ⟨g1, g2, g3⟩ := hg'
    have hI : Hid (∀ k, k < P.n → itB (P.I k) = true ∧ (P.I k).nE ≤ 2000 ∧ (P.I k).nF ≤ 2000) := fun k hk => ⟨allB_at g3 hk, by have := cnt_at P hk; omega, by have := cnt_at P hk; omega⟩
    have x0 := blk_cell A1.out 0
    simp only [List.getElem?_toArray, List.getElem?_cons_zero] at x0
    obtain ⟨N, hN⟩ : ∃ N, N = P.n := ⟨_, rfl⟩
    rw [← hN] at x0 g1
    have HN := Hid.mk hN
    rw [← hN]
    clear hN g2 g3 hn hc A1
    go_wp2
    clear x0
    go_loopw [3, 14] (fun b i wr => ∃ k : Nat, k ≤ N ∧ i = .int .i64 (k : Int) ∧ Hid (Own w.heap.size wr b (progT P k)) ∧ Hid (Below w.heap.size w wr)) (fun _ i _ => N - (intOf i).toNat)
    case atStart => exact ⟨0, Nat.zero_le _, rfl, HO, HB⟩
    case round =>
      obtain ⟨k, hk, rfl, ho, hb⟩ := hrel
      clear HO HB
      by_cases hlt : k < N
      · have hkP : k < P.n := by rw [← HN.out]; exact hlt
        have hpl := prog_len (P := P) (k := k) fun j hj => (itemAllI (P.I j) (L j) (hI.out j (by omega)).1 (hI.out j (by omega)).2.1 (hI.out j (by omega)).2.2).1
        have hA := Hid.mk (itemAllI (P.I k) (L k) (hI.out k hkP).1 (hI.out k hkP).2.1 (hI.out k hkP).2.2)
        have hOn : Hid (ItOn w.heap.size wr (P.I k) (L k)) := fun w' h' => ⟨(H.out.e k hkP).below (hb.out.trans h'), (H.out.f k hkP).below (hb.out.trans h')⟩
        have hst : Hid (progT P (k + 1) = progT P k ++ itT (P.I k) ++ [59, 10]) := rfl
        rcases H.out.s with h0 | ⟨b, off, rfl, h0⟩
        · omega
        obtain ⟨e0, e1, e2, e3, e4, e5, e6⟩ := It.at (rangeAt_below (h0 k hkP) hb.out)
        clear h0
        have k0 : (0 : Int) ≤ (k : Int) := by omega
        have k1 : (k : Int) < (N : Int) := by omega
        obtain ⟨PT, hPT⟩ : ∃ PT, PT = progT P k := ⟨_, rfl⟩
        rw [← hPT] at hpl ho hst
        generalize P.I k = it at e0 e1 e2 e3 e4 e5 e6 hA hOn hst
        generalize L k = lo at e2 e3 hA hOn
        have hBr := hb.out.size
        have hbA := Hid.mk (below_alloc' (Below.refl wr.heap.size wr) (.cells #[.int .i64 it.k, .string ⟨it.n.toArray⟩, .slice lo.aE it.nE lo.cE, .slice lo.aF it.nF lo.cF, .int .i64 it.K, .int .i64 it.lo, .int .i64 it.hi] 42))
        have HKA := Hid.mk (hb.out.alloc hBr (.cells #[.int .i64 it.k, .string ⟨it.n.toArray⟩, .slice lo.aE it.nE lo.cE, .slice lo.aF it.nF lo.cF, .int .i64 it.K, .int .i64 it.lo, .int .i64 it.hi] 42))
        have HOA := Hid.mk (own_bel' ho.out hbA.out)
        have hBA := HKA.out.size
        have hil := hA.out.1
        clear hPT ho hbA
        go_wp2_with fail
        clear e0 e1 e2 e3 e4 e5 e6
        refine (hA.out.2 w.heap.size PT _ _ (hOn.out.on ((Below.refl _ _).alloc hBr _)) HOA.out hBA (HP.out.on HKA.out) (by omega)).mono ?_
        rintro e w2 ⟨v2, rfl, ho2, hk2⟩
        have HO2 := Hid.mk ho2
        have HB2 := Hid.mk (HKA.out.trans hk2.1)
        have hB2 := HB2.out.size
        clear ho2 hk2 HOA HKA
        go_wp2_with (at_builtin; refine wpList_str rfl _ _ rfl w.heap.size _ _ rfl HO2.out [59, 10] rfl hB2 (by simp only [List.length_append, List.length_cons, List.length_nil]; omega) ?_)
        intro v3 w3 ho3 hk3
        have HO3 : Hid (Own w.heap.size w3 v3 (progT P (k + 1))) := by unfold Hid; rw [hst.out, List.append_assoc]; exact ho3
        have HB3 := Hid.mk (HB2.out.trans hk3.1)
        clear ho3 hk3 hst
        refine Hid.out ?_
        refine Lib.hid ?_
        go_wp2
        exact ⟨⟨k + 1, by omega, by go_num, HO3, HB3⟩, by simp [intOf]; omega⟩
      · obtain rfl : k = N := by omega
        have k1 : decide ((k : Int) < (k : Int)) = false := by simp
        go_wp2
        go_ret
        exact ⟨_, rfl, by rw [hv.out, ← HN.out]; exact ho.out, hb.out⟩
end Go.Proofs.YthobdaeglhdhnaaGreatDoor.Syn
