import Derived.Test.YthobdaeglhdhnaaGreatDoorPp44
import Derived.Deep.DrawnRows
namespace Go.Proofs.YthobdaeglhdhnaaGreatDoor.LawP
open Go Go.RowKit Go.Proofs.YthobdaeglhdhnaaGreatDoor.Mem Go.Proofs.YthobdaeglhdhnaaGreatDoor.Syn Go.Proofs.YthobdaeglhdhnaaGreatDoor.OpenP
set_option linter.unusedVariables false
set_option linter.unusedSimpArgs false
attribute [local go_sem ↓] Go.wp_at_zero Go.wp_at_succ

set_option maxHeartbeats 400000 in
theorem eqOp (o : Po) (w : World) : Calls Tryz.prog 72 #[.agg #[.int .i64 o.k, .int .i64 o.v, .string ⟨o.n.toArray⟩], .agg #[.int .i64 o.k, .int .i64 o.v, .string ⟨o.n.toArray⟩]] w fun e w' => e = .returned (.bool true) ∧ Below w.heap.size w w' := by
  go_enter Tryz.func72, Tryz.ntmps72
  go_wp2
  go_ret
  exact ⟨rfl, by go_grown⟩
theorem rowOp : (Tryz.prog.info? 91).map (·.size) = some 3 := by kernel_rfl
theorem rowIt : (Tryz.prog.info? 42).map (·.size) = some 7 := by kernel_rfl
end Go.Proofs.YthobdaeglhdhnaaGreatDoor.LawP
namespace Go.Proofs.YthobdaeglhdhnaaGreatDoor.LawP
open Go Go.RowKit Go.Proofs.YthobdaeglhdhnaaGreatDoor.Mem Go.Proofs.YthobdaeglhdhnaaGreatDoor.Syn Go.Proofs.YthobdaeglhdhnaaGreatDoor.OpenP
set_option linter.unusedVariables false
set_option linter.unusedSimpArgs false
attribute [local go_sem ↓] Go.wp_at_zero Go.wp_at_succ

set_option maxHeartbeats 1600000 in
set_option maxRecDepth 100000 in
theorem eqOpS (a a' : Option Addr) (n cap cap' : Nat) (V : Nat → Po) (w : World) (hs : SliceAt w a n 3 (fun i => (V i).cells)) (hs' : SliceAt w a' n 3 (fun i => (V i).cells)) (hn : n ≤ 1048576) :
    Calls Tryz.prog 52 #[.slice a n cap, .slice a' n cap'] w fun e w' => e = .returned (.bool true) ∧ Below w.heap.size w w' := by
  go_enter Tryz.func52, Tryz.ntmps52
  have HS : Hid (SliceAt w a n 3 (fun i => (V i).cells)) := hs
  have HS' : Hid (SliceAt w a' n 3 (fun i => (V i).cells)) := hs'
  clear hs hs'
  go_wp2
  go_loopw [5] (fun i wr => ∃ k : Nat, k ≤ n ∧ i = .int .i64 k ∧ Hid (Below w.heap.size w wr)) (fun i _ => n - (intOf i).toNat)
  case atStart => exact ⟨0, Nat.zero_le _, rfl, Below.refl _ _⟩
  case round =>
    obtain ⟨k, hk, rfl, hb⟩ := hrel
    by_cases hlt : k < n
    · rcases HS.out with hs | ⟨b, off, rfl, hs⟩
      · omega
      rcases HS'.out with hs' | ⟨b', off', rfl, hs'⟩
      · omega
      have hr := rangeAt_below (hs k hlt) hb.out
      have hr' := rangeAt_below (hs' k hlt) hb.out
      obtain ⟨c0, c1, c2⟩ := Po.at hr
      obtain ⟨e0, e1, e2⟩ := Po.at hr'
      clear hs hs' hr hr'
      obtain ⟨O, hO⟩ : ∃ O, O = V k := ⟨_, rfl⟩
      rw [← hO] at c0 c1 c2 e0 e1 e2
      clear hO
      have k0 : (0 : Int) ≤ (k : Int) := by omega
      have k1 : (k : Int) < (n : Int) := by omega
      go_wp2_with fail
      go_region_held3 (fun w' => w'.cell? ⟨b, off + k * 3, none⟩ = some (.int .i64 O.k) ∧ w'.cell? ⟨b, off + k * 3 + 1, none⟩ = some (.int .i64 O.v) ∧ w'.cell? ⟨b, off + k * 3 + 2, none⟩ = some (.string ⟨O.n.toArray⟩) ∧ w'.cell? ⟨b', off' + k * 3, none⟩ = some (.int .i64 O.k) ∧ w'.cell? ⟨b', off' + k * 3 + 1, none⟩ = some (.int .i64 O.v) ∧ w'.cell? ⟨b', off' + k * 3 + 2, none⟩ = some (.string ⟨O.n.toArray⟩)) (first | go_keep | ((repeat' constructor) <;> exact cell_keep hb1 (by first | assumption | (simp [*]; done)))) ((go_at_call 72; refine (eqOp O _).mono ?_; rintro e w1 ⟨rfl, hb1⟩))
      have hb2 : Hid (Below w.heap.size w w1) := below_then hb.out.drew hb1
      clear hb1 hb
      go_wp2
      exact ⟨⟨k + 1, by omega, by go_num, hb2⟩, by simp [intOf]; omega⟩
    · go_wp2
      go_ret
      exact ⟨rfl, hb.out⟩
set_option maxHeartbeats 1600000 in
set_option maxRecDepth 100000 in
theorem eqItem (i : It) (l l' : Lo) (w : World) (hE : SliceAt w l.aE i.nE 3 (fun j => (i.E j).cells)) (hF : SliceAt w l.aF i.nF 3 (fun j => (i.F j).cells)) (hE' : SliceAt w l'.aE i.nE 3 (fun j => (i.E j).cells)) (hF' : SliceAt w l'.aF i.nF 3 (fun j => (i.F j).cells)) (hnE : i.nE ≤ 1048576) (hnF : i.nF ≤ 1048576) :
    Calls Tryz.prog 34 #[.agg #[.int .i64 i.k, .string ⟨i.n.toArray⟩, .slice l.aE i.nE l.cE, .slice l.aF i.nF l.cF, .int .i64 i.K, .int .i64 i.lo, .int .i64 i.hi], .agg #[.int .i64 i.k, .string ⟨i.n.toArray⟩, .slice l'.aE i.nE l'.cE, .slice l'.aF i.nF l'.cF, .int .i64 i.K, .int .i64 i.lo, .int .i64 i.hi]] w fun e w' => e = .returned (.bool true) ∧ Below w.heap.size w w' := by
  have HE := Hid.mk hE
  have HF := Hid.mk hF
  have HE' := Hid.mk hE'
  have HF' := Hid.mk hF'
  clear hE hF hE' hF'
  go_enter Tryz.func34, Tryz.ntmps34
  go_wp2_with fail
  obtain ⟨W, hW⟩ : ∃ W : World, W = (w.alloc (.cells #[.int .i64 i.k, .string ⟨i.n.toArray⟩, .slice l.aE i.nE l.cE, .slice l.aF i.nF l.cF, .int .i64 i.K, .int .i64 i.lo, .int .i64 i.hi] 42)).alloc (.cells #[.int .i64 i.k, .string ⟨i.n.toArray⟩, .slice l'.aE i.nE l'.cE, .slice l'.aF i.nF l'.cF, .int .i64 i.K, .int .i64 i.lo, .int .i64 i.hi] 42) := ⟨_, rfl⟩
  have A0 : Hid (W.heap[w.heap.size]? = some (.cells #[.int .i64 i.k, .string ⟨i.n.toArray⟩, .slice l.aE i.nE l.cE, .slice l.aF i.nF l.cF, .int .i64 i.K, .int .i64 i.lo, .int .i64 i.hi] 42)) := by unfold Hid; rw [hW]; exact blk_alloc (blk_new w _) _
  have A1 : Hid (W.heap[w.heap.size + 1]? = some (.cells #[.int .i64 i.k, .string ⟨i.n.toArray⟩, .slice l'.aE i.nE l'.cE, .slice l'.aF i.nF l'.cF, .int .i64 i.K, .int .i64 i.lo, .int .i64 i.hi] 42)) := by unfold Hid; rw [hW]; exact blk_new1 w _ _
  have B0 : Hid (Below w.heap.size w W) := by unfold Hid; rw [hW]; go_grown
  rw [← hW]
  clear hW
  refine (eqOpS l.aE l'.aE i.nE l.cE l'.cE i.E _ (HE.out.below B0.out) (HE'.out.below B0.out) hnE).mono ?_
  rintro e w1 ⟨rfl, hb1⟩
  have A0 := Hid.mk (blk_below A0.out hb1)
  have A1 := Hid.mk (blk_below A1.out hb1)
  have B1 := Hid.mk (below_then B0.out hb1)
  clear hb1 B0
  have k1 := blk_cell A0.out 3
  have k2 := blk_cell A1.out 3
  simp only [List.getElem?_toArray, List.getElem?_cons_zero, List.getElem?_cons_succ] at k1 k2
  go_wp2_with fail
  clear k1 k2
  refine (eqOpS l.aF l'.aF i.nF l.cF l'.cF i.F _ (HF.out.below B1.out) (HF'.out.below B1.out) hnF).mono ?_
  rintro e w2 ⟨rfl, hb2⟩
  have A0 := Hid.mk (blk_below A0.out hb2)
  have A1 := Hid.mk (blk_below A1.out hb2)
  have B2 := Hid.mk (below_then B1.out hb2)
  clear hb2 B1
  have k4 := blk_cell A0.out 4
  have k5 := blk_cell A0.out 5
  have k6 := blk_cell A0.out 6
  have m4 := blk_cell A1.out 4
  have m5 := blk_cell A1.out 5
  have m6 := blk_cell A1.out 6
  simp only [List.getElem?_toArray, List.getElem?_cons_zero, List.getElem?_cons_succ] at k4 k5 k6 m4 m5 m6
  go_wp2
  go_ret
  exact ⟨rfl, B2.out⟩
set_option maxHeartbeats 3200000 in
set_option maxRecDepth 100000 in
theorem eqItemS (P : Pr) (a a' : Option Addr) (cap cap' : Nat) (L L' : Nat → Lo) (w : World) (hs : PrAt w a P L) (hs' : PrAt w a' P L') (hn : P.n ≤ 1048576) (hc : cnt P P.n ≤ 1048576) :
    Calls Tryz.prog 19 #[.slice a P.n cap, .slice a' P.n cap'] w fun e w' => e = .returned (.bool true) ∧ Below w.heap.size w w' := by
  have HC : Hid (∀ k, k < P.n → (P.I k).nE + (P.I k).nF ≤ 1048576) := fun k hk => Nat.le_trans (cnt_at P hk) hc
  have HS := Hid.mk hs
  have HS' := Hid.mk hs'
  clear hs hs' hc
  obtain ⟨n, hN⟩ : ∃ n, n = P.n := ⟨_, rfl⟩
  have HN := Hid.mk hN
  rw [← hN] at hn HC
  rw [← hN]
  clear hN
  go_enter Tryz.func19, Tryz.ntmps19
  go_wp2
  go_loopw [5] (fun i wr => ∃ k : Nat, k ≤ n ∧ i = .int .i64 k ∧ Hid (Below w.heap.size w wr)) (fun i _ => n - (intOf i).toNat)
  case atStart => exact ⟨0, Nat.zero_le _, rfl, Below.refl _ _⟩
  case round =>
    obtain ⟨k, hk, rfl, hb⟩ := hrel
    by_cases hlt : k < n
    · have hltP : k < P.n := by rw [← HN.out]; exact hlt
      have hcc := HC.out k hlt
      have EE := Hid.mk ((HS.out.below hb.out).e k hltP)
      have EF := Hid.mk ((HS.out.below hb.out).f k hltP)
      have EE' := Hid.mk ((HS'.out.below hb.out).e k hltP)
      have EF' := Hid.mk ((HS'.out.below hb.out).f k hltP)
      rcases (HS.out.below hb.out).s with hs | ⟨b, off, rfl, hs⟩
      · omega
      rcases (HS'.out.below hb.out).s with hs' | ⟨b', off', rfl, hs'⟩
      · omega
      obtain ⟨c0, c1, c2, c3, c4, c5, c6⟩ := It.at (hs k hltP)
      obtain ⟨e0, e1, e2, e3, e4, e5, e6⟩ := It.at (hs' k hltP)
      clear hs hs' hltP
      obtain ⟨I, hI⟩ : ∃ I, I = P.I k := ⟨_, rfl⟩
      obtain ⟨l, hl⟩ : ∃ l, l = L k := ⟨_, rfl⟩
      obtain ⟨l', hl'⟩ : ∃ l, l = L' k := ⟨_, rfl⟩
      rw [← hI] at c0 c1 c2 c3 c4 c5 c6 e0 e1 e2 e3 e4 e5 e6 EE EF EE' EF' hcc
      rw [← hl] at c2 c3 EE EF
      rw [← hl'] at e2 e3 EE' EF'
      clear hI hl hl'
      have k0 : (0 : Int) ≤ (k : Int) := by omega
      have k1 : (k : Int) < (n : Int) := by omega
      go_wp2_with fail
      go_region_held3 (fun w' => w'.cell? ⟨b, off + k * 7, none⟩ = some (.int .i64 I.k) ∧ w'.cell? ⟨b, off + k * 7 + 1, none⟩ = some (.string ⟨I.n.toArray⟩) ∧ w'.cell? ⟨b, off + k * 7 + 2, none⟩ = some (.slice l.aE I.nE l.cE) ∧ w'.cell? ⟨b, off + k * 7 + 3, none⟩ = some (.slice l.aF I.nF l.cF) ∧ w'.cell? ⟨b, off + k * 7 + 4, none⟩ = some (.int .i64 I.K) ∧ w'.cell? ⟨b, off + k * 7 + 5, none⟩ = some (.int .i64 I.lo) ∧ w'.cell? ⟨b, off + k * 7 + 6, none⟩ = some (.int .i64 I.hi) ∧ w'.cell? ⟨b', off' + k * 7, none⟩ = some (.int .i64 I.k) ∧ w'.cell? ⟨b', off' + k * 7 + 1, none⟩ = some (.string ⟨I.n.toArray⟩) ∧ w'.cell? ⟨b', off' + k * 7 + 2, none⟩ = some (.slice l'.aE I.nE l'.cE) ∧ w'.cell? ⟨b', off' + k * 7 + 3, none⟩ = some (.slice l'.aF I.nF l'.cF) ∧ w'.cell? ⟨b', off' + k * 7 + 4, none⟩ = some (.int .i64 I.K) ∧ w'.cell? ⟨b', off' + k * 7 + 5, none⟩ = some (.int .i64 I.lo) ∧ w'.cell? ⟨b', off' + k * 7 + 6, none⟩ = some (.int .i64 I.hi)) (first | go_keep | ((repeat' constructor) <;> exact cell_keep hb1 (by first | assumption | (simp [*]; done)))) ((go_at_call 34; refine (eqItem I l l' _ (EE.out.below (Below.refl _ _).drew) (EF.out.below (Below.refl _ _).drew) (EE'.out.below (Below.refl _ _).drew) (EF'.out.below (Below.refl _ _).drew) (by omega) (by omega)).mono ?_; rintro e w1 ⟨rfl, hb1⟩))
      have hb2 : Hid (Below w.heap.size w w1) := below_then hb.out.drew hb1
      clear hb1 hb
      go_wp2
      exact ⟨⟨k + 1, by omega, by go_num, hb2⟩, by simp [intOf]; omega⟩
    · go_wp2
      go_ret
      exact ⟨rfl, hb.out⟩
theorem eqProg (P : Pr) (a a' : Option Addr) (cap cap' : Nat) (L L' : Nat → Lo) (w : World) (hs : PrAt w a P L) (hs' : PrAt w a' P L') (hn : P.n ≤ 1048576) (hc : cnt P P.n ≤ 1048576) :
    Calls Tryz.prog 9 #[.agg #[.slice a P.n cap], .agg #[.slice a' P.n cap']] w fun e w' => e = .returned (.bool true) ∧ Below w.heap.size w w' := by
  have HS := Hid.mk hs
  have HS' := Hid.mk hs'
  clear hs hs'
  go_enter Tryz.func9, Tryz.ntmps9
  go_wp2_with fail
  have hb0 : Below w.heap.size w ((w.alloc (.cells #[.slice a P.n cap] 30)).alloc (.cells #[.slice a' P.n cap'] 30)) := by go_grown
  refine (eqItemS P a a' cap cap' L L' _ (HS.out.below hb0) (HS'.out.below hb0) hn hc).mono ?_
  rintro e w1 ⟨rfl, hb1⟩
  have B1 := Hid.mk (below_then hb0 hb1)
  clear hb0 hb1
  go_wp2
  go_ret
  exact ⟨rfl, B1.out⟩
end Go.Proofs.YthobdaeglhdhnaaGreatDoor.LawP
