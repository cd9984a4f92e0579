import Derived.Test.YtfoigigbggickaaDoorPq17
import Derived.Deep.DrawnRows
import Derived.Deep.CutRange
import Derived.Deep.Cut
import Derived.Deep.DeepCutAuto
namespace Go.Proofs.YtfoigigbggickaaDoor.Syn
open Go Go.RowKit Go.Proofs.YtfoigigbggickaaDoor.Mem
set_option linter.unusedVariables false

/-- An item, and where its lists lie. -/
structure It where
  (k : Int) (n : List UInt8) (nE nF : Nat) (E F : Nat → Po) (K lo hi : Int)
structure Lo where
  (aE aF : Option Addr) (cE cF : Nat)
def It.cells (i : It) (l : Lo) : List Value := [.int .i64 i.k, .string ⟨i.n.toArray⟩, .slice l.aE i.nE l.cE, .slice l.aF i.nF l.cF, .int .i64 i.K, .int .i64 i.lo, .int .i64 i.hi]
theorem It.len (i : It) (l : Lo) : (i.cells l).length = 7 := rfl
theorem It.one (i : It) (l : Lo) : (i.cells l).toArray.all (·.oneCell') = true := by simp [It.cells, Value.oneCell']
theorem It.at {w : World} {b o : Nat} {i : It} {l : Lo} (h : w.rangeAt b o (i.cells l)) : w.cell? ⟨b, o, none⟩ = some (.int .i64 i.k) ∧ w.cell? ⟨b, o + 1, none⟩ = some (.string ⟨i.n.toArray⟩) ∧ w.cell? ⟨b, o + 2, none⟩ = some (.slice l.aE i.nE l.cE) ∧ w.cell? ⟨b, o + 3, none⟩ = some (.slice l.aF i.nF l.cF) ∧ w.cell? ⟨b, o + 4, none⟩ = some (.int .i64 i.K) ∧ w.cell? ⟨b, o + 5, none⟩ = some (.int .i64 i.lo) ∧ w.cell? ⟨b, o + 6, none⟩ = some (.int .i64 i.hi) :=
  ⟨h 0 _ rfl, h 1 _ rfl, h 2 _ rfl, h 3 _ rfl, h 4 _ rfl, h 5 _ rfl, h 6 _ rfl⟩
/-- A program and where it lies. -/
structure Pr where
  (n : Nat) (I : Nat → It)
structure PrAt (w : World) (a : Option Addr) (P : Pr) (L : Nat → Lo) : Prop where
  s : SliceAt w a P.n 7 (fun i => (P.I i).cells (L i))
  e : ∀ i, i < P.n → SliceAt w (L i).aE (P.I i).nE 3 (fun j => ((P.I i).E j).cells)
  f : ∀ i, i < P.n → SliceAt w (L i).aF (P.I i).nF 3 (fun j => ((P.I i).F j).cells)
theorem PrAt.below {w w' : World} {a : Option Addr} {P : Pr} {L : Nat → Lo} (h : PrAt w a P L) (hb : Below w.heap.size w w') : PrAt w' a P L := ⟨h.s.below hb, fun i hi => (h.e i hi).below hb, fun i hi => (h.f i hi).below hb⟩

def cnt (P : Pr) : Nat → Nat
  | 0 => 0
  | k + 1 => cnt P k + ((P.I k).nE + (P.I k).nF)
theorem cnt_mono (P : Pr) {k n : Nat} (h : k ≤ n) : cnt P k ≤ cnt P n := by
  induction n with
  | zero => obtain rfl : k = 0 := by omega
            exact Nat.le_refl _
  | succ n ih =>
    by_cases e : k = n + 1
    · rw [e]; exact Nat.le_refl _
    · exact Nat.le_trans (ih (by omega)) (by simp only [cnt]; omega)
theorem cnt_at (P : Pr) {k n : Nat} (h : k < n) : (P.I k).nE + (P.I k).nF ≤ cnt P n := by
  have := cnt_mono P (show k + 1 ≤ n from h)
  simp only [cnt] at this; omega
end Go.Proofs.YtfoigigbggickaaDoor.Syn
namespace Go.Proofs.YtfoigigbggickaaDoor.LawP
open Go Go.RowKit Go.Proofs.YtfoigigbggickaaDoor.Mem Go.Proofs.YtfoigigbggickaaDoor.Syn
set_option linter.unusedVariables false
set_option linter.unusedSimpArgs false
attribute [local go_sem ↓] Go.wp_at_zero Go.wp_at_succ

set_option maxHeartbeats 400000 in
theorem eqOp (o : Po) (w : World) : Calls Tryd.prog 80 #[.agg #[.int .i64 o.k, .int .i64 o.v, .string ⟨o.n.toArray⟩], .agg #[.int .i64 o.k, .int .i64 o.v, .string ⟨o.n.toArray⟩]] w fun e w' => e = .returned (.bool true) ∧ Below w.heap.size w w' := by
  go_enter Tryd.func80, Tryd.ntmps80
  go_wp2
  go_ret
  exact ⟨rfl, by go_grown⟩
set_option maxHeartbeats 1600000 in
set_option maxRecDepth 100000 in
theorem eqOpS (a a' : Option Addr) (n cap cap' : Nat) (V : Nat → Po) (w : World) (hs : SliceAt w a n 3 (fun i => (V i).cells)) (hs' : SliceAt w a' n 3 (fun i => (V i).cells)) (hn : n ≤ 1048576) :
    Calls Tryd.prog 70 #[.slice a n cap, .slice a' n cap'] w fun e w' => e = .returned (.bool true) ∧ Below w.heap.size w w' := by
  go_enter Tryd.func70, Tryd.ntmps70
  have HS : Hid (SliceAt w a n 3 (fun i => (V i).cells)) := hs
  have HS' : Hid (SliceAt w a' n 3 (fun i => (V i).cells)) := hs'
  clear hs hs'
  go_wp2
  go_loopw [5] (fun i wr => ∃ k : Nat, k ≤ n ∧ i = .int .i64 k ∧ Hid (Below w.heap.size w wr)) (fun i _ => n - (intOf i).toNat)
  case atStart => exact ⟨0, Nat.zero_le _, rfl, Below.refl _ _⟩
  case round =>
    obtain ⟨k, hk, rfl, hb⟩ := hrel
    by_cases hlt : k < n
    · rcases HS.out with hs | ⟨b, off, rfl, hs⟩
      · omega
      rcases HS'.out with hs' | ⟨b', off', rfl, hs'⟩
      · omega
      have hr := rangeAt_below (hs k hlt) hb.out
      have hr' := rangeAt_below (hs' k hlt) hb.out
      obtain ⟨c0, c1, c2⟩ := Po.at hr
      obtain ⟨e0, e1, e2⟩ := Po.at hr'
      clear hs hs' hr hr'
      obtain ⟨O, hO⟩ : ∃ O, O = V k := ⟨_, rfl⟩
      rw [← hO] at c0 c1 c2 e0 e1 e2
      clear hO
      have k0 : (0 : Int) ≤ (k : Int) := by omega
      have k1 : (k : Int) < (n : Int) := by omega
      go_wp2_with fail
      go_region_held3 (fun w' => w'.cell? ⟨b, off + k * 3, none⟩ = some (.int .i64 O.k) ∧ w'.cell? ⟨b, off + k * 3 + 1, none⟩ = some (.int .i64 O.v) ∧ w'.cell? ⟨b, off + k * 3 + 2, none⟩ = some (.string ⟨O.n.toArray⟩) ∧ w'.cell? ⟨b', off' + k * 3, none⟩ = some (.int .i64 O.k) ∧ w'.cell? ⟨b', off' + k * 3 + 1, none⟩ = some (.int .i64 O.v) ∧ w'.cell? ⟨b', off' + k * 3 + 2, none⟩ = some (.string ⟨O.n.toArray⟩)) (first | go_keep | ((repeat' constructor) <;> exact cell_keep hb1 (by first | assumption | (simp [*]; done)))) ((go_at_call 80; refine (eqOp O _).mono ?_; rintro e w1 ⟨rfl, hb1⟩))
      have hb2 : Hid (Below w.heap.size w w1) := below_then hb.out.drew hb1
      clear hb1 hb
      go_wp2
      exact ⟨⟨k + 1, by omega, by go_num, hb2⟩, by simp [intOf]; omega⟩
    · go_wp2
      go_ret
      exact ⟨rfl, hb.out⟩
set_option maxHeartbeats 1600000 in
set_option maxRecDepth 100000 in
theorem eqItem (i : It) (l l' : Lo) (w : World) (hE : SliceAt w l.aE i.nE 3 (fun j => (i.E j).cells)) (hF : SliceAt w l.aF i.nF 3 (fun j => (i.F j).cells)) (hE' : SliceAt w l'.aE i.nE 3 (fun j => (i.E j).cells)) (hF' : SliceAt w l'.aF i.nF 3 (fun j => (i.F j).cells)) (hnE : i.nE ≤ 1048576) (hnF : i.nF ≤ 1048576) :
    Calls Tryd.prog 57 #[.agg #[.int .i64 i.k, .string ⟨i.n.toArray⟩, .slice l.aE i.nE l.cE, .slice l.aF i.nF l.cF, .int .i64 i.K, .int .i64 i.lo, .int .i64 i.hi], .agg #[.int .i64 i.k, .string ⟨i.n.toArray⟩, .slice l'.aE i.nE l'.cE, .slice l'.aF i.nF l'.cF, .int .i64 i.K, .int .i64 i.lo, .int .i64 i.hi]] w fun e w' => e = .returned (.bool true) ∧ Below w.heap.size w w' := by
  have HE := Hid.mk hE
  have HF := Hid.mk hF
  have HE' := Hid.mk hE'
  have HF' := Hid.mk hF'
  clear hE hF hE' hF'
  go_enter Tryd.func57, Tryd.ntmps57
  go_wp2_with fail
  obtain ⟨W, hW⟩ : ∃ W : World, W = (w.alloc (.cells #[.int .i64 i.k, .string ⟨i.n.toArray⟩, .slice l.aE i.nE l.cE, .slice l.aF i.nF l.cF, .int .i64 i.K, .int .i64 i.lo, .int .i64 i.hi] 45)).alloc (.cells #[.int .i64 i.k, .string ⟨i.n.toArray⟩, .slice l'.aE i.nE l'.cE, .slice l'.aF i.nF l'.cF, .int .i64 i.K, .int .i64 i.lo, .int .i64 i.hi] 45) := ⟨_, rfl⟩
  have A0 : Hid (W.heap[w.heap.size]? = some (.cells #[.int .i64 i.k, .string ⟨i.n.toArray⟩, .slice l.aE i.nE l.cE, .slice l.aF i.nF l.cF, .int .i64 i.K, .int .i64 i.lo, .int .i64 i.hi] 45)) := by unfold Hid; rw [hW]; exact blk_alloc (blk_new w _) _
  have A1 : Hid (W.heap[w.heap.size + 1]? = some (.cells #[.int .i64 i.k, .string ⟨i.n.toArray⟩, .slice l'.aE i.nE l'.cE, .slice l'.aF i.nF l'.cF, .int .i64 i.K, .int .i64 i.lo, .int .i64 i.hi] 45)) := by unfold Hid; rw [hW]; exact blk_new1 w _ _
  have B0 : Hid (Below w.heap.size w W) := by unfold Hid; rw [hW]; go_grown
  rw [← hW]
  clear hW
  refine (eqOpS l.aE l'.aE i.nE l.cE l'.cE i.E _ (HE.out.below B0.out) (HE'.out.below B0.out) hnE).mono ?_
  rintro e w1 ⟨rfl, hb1⟩
  have A0 := Hid.mk (blk_below A0.out hb1)
  have A1 := Hid.mk (blk_below A1.out hb1)
  have B1 := Hid.mk (below_then B0.out hb1)
  clear hb1 B0
  have k1 := blk_cell A0.out 3
  have k2 := blk_cell A1.out 3
  simp only [List.getElem?_toArray, List.getElem?_cons_zero, List.getElem?_cons_succ] at k1 k2
  go_wp2_with fail
  clear k1 k2
  refine (eqOpS l.aF l'.aF i.nF l.cF l'.cF i.F _ (HF.out.below B1.out) (HF'.out.below B1.out) hnF).mono ?_
  rintro e w2 ⟨rfl, hb2⟩
  have A0 := Hid.mk (blk_below A0.out hb2)
  have A1 := Hid.mk (blk_below A1.out hb2)
  have B2 := Hid.mk (below_then B1.out hb2)
  clear hb2 B1
  have k4 := blk_cell A0.out 4
  have k5 := blk_cell A0.out 5
  have k6 := blk_cell A0.out 6
  have m4 := blk_cell A1.out 4
  have m5 := blk_cell A1.out 5
  have m6 := blk_cell A1.out 6
  simp only [List.getElem?_toArray, List.getElem?_cons_zero, List.getElem?_cons_succ] at k4 k5 k6 m4 m5 m6
  go_wp2
  go_ret
  exact ⟨rfl, B2.out⟩
set_option maxHeartbeats 3200000 in
set_option maxRecDepth 100000 in
theorem eqItemS (P : Pr) (a a' : Option Addr) (cap cap' : Nat) (L L' : Nat → Lo) (w : World) (hs : PrAt w a P L) (hs' : PrAt w a' P L') (hn : P.n ≤ 1048576) (hc : cnt P P.n ≤ 1048576) :
    Calls Tryd.prog 34 #[.slice a P.n cap, .slice a' P.n cap'] w fun e w' => e = .returned (.bool true) ∧ Below w.heap.size w w' := by
  have HC : Hid (∀ k, k < P.n → (P.I k).nE + (P.I k).nF ≤ 1048576) := fun k hk => Nat.le_trans (cnt_at P hk) hc
  have HS := Hid.mk hs
  have HS' := Hid.mk hs'
  clear hs hs' hc
  obtain ⟨n, hN⟩ : ∃ n, n = P.n := ⟨_, rfl⟩
  have HN := Hid.mk hN
  rw [← hN] at hn HC
  rw [← hN]
  clear hN
  go_enter Tryd.func34, Tryd.ntmps34
  go_wp2
  go_loopw [5] (fun i wr => ∃ k : Nat, k ≤ n ∧ i = .int .i64 k ∧ Hid (Below w.heap.size w wr)) (fun i _ => n - (intOf i).toNat)
  case atStart => exact ⟨0, Nat.zero_le _, rfl, Below.refl _ _⟩
  case round =>
    obtain ⟨k, hk, rfl, hb⟩ := hrel
    by_cases hlt : k < n
    · have hltP : k < P.n := by rw [← HN.out]; exact hlt
      have hcc := HC.out k hlt
      have EE := Hid.mk ((HS.out.below hb.out).e k hltP)
      have EF := Hid.mk ((HS.out.below hb.out).f k hltP)
      have EE' := Hid.mk ((HS'.out.below hb.out).e k hltP)
      have EF' := Hid.mk ((HS'.out.below hb.out).f k hltP)
      rcases (HS.out.below hb.out).s with hs | ⟨b, off, rfl, hs⟩
      · omega
      rcases (HS'.out.below hb.out).s with hs' | ⟨b', off', rfl, hs'⟩
      · omega
      obtain ⟨c0, c1, c2, c3, c4, c5, c6⟩ := It.at (hs k hltP)
      obtain ⟨e0, e1, e2, e3, e4, e5, e6⟩ := It.at (hs' k hltP)
      clear hs hs' hltP
      obtain ⟨I, hI⟩ : ∃ I, I = P.I k := ⟨_, rfl⟩
      obtain ⟨l, hl⟩ : ∃ l, l = L k := ⟨_, rfl⟩
      obtain ⟨l', hl'⟩ : ∃ l, l = L' k := ⟨_, rfl⟩
      rw [← hI] at c0 c1 c2 c3 c4 c5 c6 e0 e1 e2 e3 e4 e5 e6 EE EF EE' EF' hcc
      rw [← hl] at c2 c3 EE EF
      rw [← hl'] at e2 e3 EE' EF'
      clear hI hl hl'
      have k0 : (0 : Int) ≤ (k : Int) := by omega
      have k1 : (k : Int) < (n : Int) := by omega
      go_wp2_with fail
      go_region_held3 (fun w' => w'.cell? ⟨b, off + k * 7, none⟩ = some (.int .i64 I.k) ∧ w'.cell? ⟨b, off + k * 7 + 1, none⟩ = some (.string ⟨I.n.toArray⟩) ∧ w'.cell? ⟨b, off + k * 7 + 2, none⟩ = some (.slice l.aE I.nE l.cE) ∧ w'.cell? ⟨b, off + k * 7 + 3, none⟩ = some (.slice l.aF I.nF l.cF) ∧ w'.cell? ⟨b, off + k * 7 + 4, none⟩ = some (.int .i64 I.K) ∧ w'.cell? ⟨b, off + k * 7 + 5, none⟩ = some (.int .i64 I.lo) ∧ w'.cell? ⟨b, off + k * 7 + 6, none⟩ = some (.int .i64 I.hi) ∧ w'.cell? ⟨b', off' + k * 7, none⟩ = some (.int .i64 I.k) ∧ w'.cell? ⟨b', off' + k * 7 + 1, none⟩ = some (.string ⟨I.n.toArray⟩) ∧ w'.cell? ⟨b', off' + k * 7 + 2, none⟩ = some (.slice l'.aE I.nE l'.cE) ∧ w'.cell? ⟨b', off' + k * 7 + 3, none⟩ = some (.slice l'.aF I.nF l'.cF) ∧ w'.cell? ⟨b', off' + k * 7 + 4, none⟩ = some (.int .i64 I.K) ∧ w'.cell? ⟨b', off' + k * 7 + 5, none⟩ = some (.int .i64 I.lo) ∧ w'.cell? ⟨b', off' + k * 7 + 6, none⟩ = some (.int .i64 I.hi)) (first | go_keep | ((repeat' constructor) <;> exact cell_keep hb1 (by first | assumption | (simp [*]; done)))) ((go_at_call 57; refine (eqItem I l l' _ (EE.out.below (Below.refl _ _).drew) (EF.out.below (Below.refl _ _).drew) (EE'.out.below (Below.refl _ _).drew) (EF'.out.below (Below.refl _ _).drew) (by omega) (by omega)).mono ?_; rintro e w1 ⟨rfl, hb1⟩))
      have hb2 : Hid (Below w.heap.size w w1) := below_then hb.out.drew hb1
      clear hb1 hb
      go_wp2
      exact ⟨⟨k + 1, by omega, by go_num, hb2⟩, by simp [intOf]; omega⟩
    · go_wp2
      go_ret
      exact ⟨rfl, hb.out⟩
theorem eqProg (P : Pr) (a a' : Option Addr) (cap cap' : Nat) (L L' : Nat → Lo) (w : World) (hs : PrAt w a P L) (hs' : PrAt w a' P L') (hn : P.n ≤ 1048576) (hc : cnt P P.n ≤ 1048576) :
    Calls Tryd.prog 18 #[.agg #[.slice a P.n cap], .agg #[.slice a' P.n cap']] w fun e w' => e = .returned (.bool true) ∧ Below w.heap.size w w' := by
  have HS := Hid.mk hs
  have HS' := Hid.mk hs'
  clear hs hs'
  go_enter Tryd.func18, Tryd.ntmps18
  go_wp2_with fail
  have hb0 : Below w.heap.size w ((w.alloc (.cells #[.slice a P.n cap] 25)).alloc (.cells #[.slice a' P.n cap'] 25)) := by go_grown
  refine (eqItemS P a a' cap cap' L L' _ (HS.out.below hb0) (HS'.out.below hb0) hn hc).mono ?_
  rintro e w1 ⟨rfl, hb1⟩
  have B1 := Hid.mk (below_then hb0 hb1)
  clear hb0 hb1
  go_wp2
  go_ret
  exact ⟨rfl, B1.out⟩

set_option maxHeartbeats 1600000 in
set_option maxRecDepth 100000 in
theorem eqProgRes (P : Pr) (e l : Int) (a a' : Option Addr) (n cap cap' : Nat) (L L' : Nat → Lo) (w : World) (hP : n = P.n) (hs : PrAt w a P L) (hs' : PrAt w a' P L') (hn : P.n ≤ 1048576) (hc : cnt P P.n ≤ 1048576) :
    Calls Tryd.prog 7 #[.agg #[.int .i64 e, .int .i64 l, .slice a n cap], .agg #[.int .i64 e, .int .i64 l, .slice a' n cap']] w fun r w' => r = .returned (.bool true) ∧ Below w.heap.size w w' := by
  have HS := Hid.mk hs
  have HS' := Hid.mk hs'
  clear hs hs'
  obtain ⟨W, hW⟩ : ∃ W : World, W = (w.alloc (.cells #[.int .i64 e, .int .i64 l, .slice a n cap] 27)).alloc (.cells #[.int .i64 e, .int .i64 l, .slice a' n cap'] 27) := ⟨_, rfl⟩
  have hb0 : Hid (Below w.heap.size w W) := by unfold Hid; rw [hW]; go_grown
  have CE := Hid.mk (eqProg P a a' cap cap' L L' W (HS.out.below hb0.out) (HS'.out.below hb0.out) hn hc)
  rw [← hP] at CE
  have h1 : (e != e) = false := by simp
  have h2 : (l != l) = false := by simp
  clear hP hn hc
  go_enter Tryd.func7, Tryd.ntmps7
  go_wp2_with fail
  rw [← hW]
  clear hW
  refine CE.out.mono ?_
  rintro r w1 ⟨rfl, hb1⟩
  have B1 := Hid.mk (below_then hb0.out hb1)
  clear hb1
  go_wp2
  go_ret
  exact ⟨rfl, B1.out⟩
end Go.Proofs.YtfoigigbggickaaDoor.LawP
