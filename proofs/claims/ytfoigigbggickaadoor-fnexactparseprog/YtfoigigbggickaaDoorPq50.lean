import Derived.Test.YtfoigigbggickaaDoorPq48
import Derived.Test.YtfoigigbggickaaDoorPq41
import Derived.Defers
import Derived.Recover
namespace Go.Proofs.YtfoigigbggickaaDoor.Par
open Go Go.RowKit Go.Proofs.YtfoigigbggickaaDoor.Mem Go.Proofs.YtfoigigbggickaaDoor.Syn Go.Proofs.YtfoigigbggickaaDoor.Parse
set_option linter.unusedVariables false
set_option linter.unusedSimpArgs false
set_option maxHeartbeats 6400000
set_option maxRecDepth 1000000
attribute [local go_sem ↓] Go.wp_at_zero Go.wp_at_succ
theorem pp19 {t : List UInt8} {g N c : Nat} {w wr : World} {pb : Nat} {s : Sg} {L : List Im} {Q : Exit → Act → World → Prop} {v0 v1 iv v5 v6 v7 : Value} {r : List Value} (hr : r.length = 54) (M : Hid (Mp t g N c w pb s iv L wr)) (hn : Hid (∀ a' wx, bodyPost Tryd.prog Tryd.f4 (fun e w' => e = .returned (.agg #[.int .i64 s.e, .int .i64 (s.a : Int), .slice none 0 0]) ∧ w' = ((wr.setCell ⟨w.heap.size, 0, none⟩ (.int .i64 s.e)).setCell ⟨w.heap.size, 1, none⟩ (.int .i64 (s.a : Int))).setCell ⟨w.heap.size, 2, none⟩ (.slice none 0 0)) .ret a' wx → Q .ret a' wx)) :
    Code.wp Tryd.prog (sR (sR (sR (sR (sR z0))))) Q (Fp w pb v0 v1 iv v5 v6 v7 r) wr := by
  have r0 := (blk_cell M.out.r 0).trans rfl
  have r1 := (blk_cell M.out.r 1).trans rfl
  have r2 := (blk_cell M.out.r 2).trans rfl
  have fr0 := blk_unfrozen M.out.r 0
  have fr1 := blk_unfrozen M.out.r 1
  have fr2 := blk_unfrozen M.out.r 2
  have b3 := (blk_cell M.out.b 3).trans rfl
  have b4 := (blk_cell M.out.b 4).trans rfl
  revert r
  refine @elim_out 54 _ ?_
  iterate 54 (intro _)
  show Code.wp _ _ _ _ _
  conv => arg 2; dsimp only [z0, Tryd.f4, Option.getD, sR, sL, cT, cF, bk, lpo]
  conv => arg 4; dsimp only [Fp]
  go_wp2_with fail
  refine hn.out _ _ ?_
  refine bodyPost_ret (by simp [results, Tryd.results4, go_sem, r0, r1, r2]; try rfl) rfl ?_
  exact ⟨rfl, rfl⟩
theorem ppLong {a : Option Addr} {n c : Nat} {w : World} {Q : Exit → Act → World → Prop} {D : Code} {r : List Value} (hr : r.length = 61) (hl : 65536 < n) (hn : Hid (∀ a' wx, bodyPost Tryd.prog Tryd.f4 (fun e w' => e = .returned (.agg #[.int .i64 1, .int .i64 0, .slice none 0 0]) ∧ w' = w.alloc (.cells #[.int .i64 1, .int .i64 0, .slice none 0 0] 27)) .ret a' wx → Q .ret a' wx)) :
    Code.wp Tryd.prog (.seq (sL z0) (.seq (sL (sR z0)) D)) Q { tmps := (Value.slice a n c :: r).toArray, defers := [] } w := by
  have h1 : (65536 : Int) < (n : Int) := by omega
  clear hl
  revert r
  refine @elim_out 61 _ ?_
  iterate 61 (intro _)
  show Code.wp _ _ _ _ _
  conv => arg 2; dsimp only [z0, Tryd.f4, Option.getD, sR, sL, cT, cF, bk, lpo]
  conv =>
    arg 4
    dsimp only
  go_wp2_with fail
  refine hn.out _ _ ?_
  refine bodyPost_ret (by simp [results, Tryd.results4, go_sem]; try rfl) rfl ?_
  exact ⟨rfl, rfl⟩
theorem ppShort {a : Option Addr} {n c : Nat} {w : World} {Q : Exit → Act → World → Prop} {D : Code} {r : List Value} (hr : r.length = 61) (hl : ¬ 65536 < n) (hn : Hid (∀ v1 r', r'.length = 59 → Code.wp Tryd.prog D Q { tmps := (Value.slice a n c :: v1 :: .pointer (some ⟨w.heap.size, 0, none⟩) :: r').toArray, defers := [] } (w.alloc (.cells #[.int .i64 0, .int .i64 0, .slice none 0 0] 27)))) :
    Code.wp Tryd.prog (.seq (sL z0) (.seq (sL (sR z0)) D)) Q { tmps := (Value.slice a n c :: r).toArray, defers := [] } w := by
  have h1 : decide ((65536 : Int) < (n : Int)) = false := by simp; omega
  have h2 : ¬ (65536 : Int) < (n : Int) := by omega
  clear hl
  revert r
  refine @elim_out 61 _ ?_
  iterate 61 (intro _)
  show Code.wp _ _ _ _ _
  conv => arg 2; dsimp only [z0, Tryd.f4, Option.getD, sR, sL, cT, cF, bk, lpo]
  conv =>
    arg 4
    dsimp only
  go_wp2_with fail
  refine hn.out _ _ ?_
  rfl
theorem ppLex {t : List UInt8} {a : Option Addr} {n c : Nat} {w : World} {Q : Exit → Act → World → Prop} {D : Code} {r : List Value} {v1 : Value} (hr : r.length = 59) (hl : n ≤ 65536) (hnt : n = t.length) (ht : Txt w.heap.size w (.slice a n c) t) (hn : Hid (∀ g N c' pb v0 v1 iv v5 v6 v7 r' wx, r'.length = 54 → N ≤ 100000 → Nf t N → Mp t g N c' w pb ⟨0, 0, 0, 0⟩ iv [] wx → Code.wp Tryd.prog D Q (Fp w pb v0 v1 iv v5 v6 v7 r') wx)) :
    Code.wp Tryd.prog (.seq (sL (sR (sR z0))) (.seq (sL (sR (sR (sR z0)))) D)) Q { tmps := (Value.slice a n c :: v1 :: .pointer (some ⟨w.heap.size, 0, none⟩) :: r).toArray, defers := [] } (w.alloc (.cells #[.int .i64 0, .int .i64 0, .slice none 0 0] 27)) := by
  obtain ⟨i0, hi0, hz0, hz1, hz2⟩ := info_parts infoI
  have hA : Below w.heap.size w (w.alloc (.cells #[.int .i64 0, .int .i64 0, .slice none 0 0] 27)) := below_alloc' (Below.refl _ _) _
  have CL := Hid.mk (lexS a t n c (w.alloc (.cells #[.int .i64 0, .int .i64 0, .slice none 0 0] 27)) hnt (txt_up (ht.below hA) (by simp)) hl)
  have R1 := Hid.mk (blk_new w (.cells #[.int .i64 0, .int .i64 0, .slice none 0 0] 27))
  revert r
  refine @elim_out 59 _ ?_
  iterate 59 (intro _)
  show Code.wp _ _ _ _ _
  conv => arg 2; dsimp only [z0, Tryd.f4, Option.getD, sR, sL, cT, cF, bk, lpo]
  conv =>
    arg 4
    dsimp only
  obtain ⟨w1, hw1⟩ : ∃ W, W = (w.alloc (.cells #[.int .i64 0, .int .i64 0, .slice none 0 0] 27)) := ⟨_, rfl⟩
  rw [← hw1] at CL R1 hA ⊢
  have hsz : w1.heap.size = w.heap.size + 1 := by rw [hw1]; simp
  have HA := Hid.mk hA
  have HL : Hid (n ≤ 65536 ∧ n = t.length) := ⟨hl, hnt⟩
  have HSZ := Hid.mk hsz
  clear hw1 hA hl hnt ht hsz
  go_wp2_with fail
  refine CL.out.mono ?_
  rintro e' w2 ⟨v, N, rfl, hrow, h1, h2, h3, h4, hb⟩
  obtain ⟨g, c', TC, rfl, htk, hat⟩ := lex_tq hrow h1
  have HB := Hid.mk hb
  have HTK := Hid.mk htk
  have HAT := Hid.mk hat
  have HN : Hid (Nf t N) := ⟨h1, by have := HL.out; omega, h3, h4⟩
  clear hrow h1 h2 h3 h4 hb htk hat CL
  go_wp2_with fail
  refine hn.out g N c' w2.heap.size _ _ _ _ _ _ _ _ ?_ HN.out.le HN.out ?_
  · rfl
  have s1 := HSZ.out
  have s2 := HB.out.size
  have hBB : Below w.heap.size w w2 := below_then HA.out HB.out
  refine ⟨blk_alloc (blk_alloc (blk_below R1.out HB.out) _) _, blk_alloc (blk_new _ _) _, by omega, by omega, ⟨TC, blk_alloc (blk_alloc HTK.out _) _, HAT.out⟩, ⟨[], ?_, .nil⟩, below_alloc' (below_alloc' hBB _) _⟩
  have := World.ownsRow_made (base := w.heap.size) (e := 45) (size := 7) (w2.alloc (.cells #[.slice (some ⟨g, 0, none⟩) N c', .int .i64 0, .int .i64 0, .int .i64 0, .int .i64 0] 38)) #[] 0 (by simp; omega) (by unfold maxLen; omega) (by simp)
  rw [show (w2.alloc (.cells #[.slice (some ⟨g, 0, none⟩) N c', .int .i64 0, .int .i64 0, .int .i64 0, .int .i64 0] 38)).heap.size = w2.heap.size + 1 by simp] at this
  exact this
end Go.Proofs.YtfoigigbggickaaDoor.Par
namespace Go.Proofs.YtfoigigbggickaaDoor.Par
open Go Go.RowKit Go.Proofs.YtfoigigbggickaaDoor.Mem Go.Proofs.YtfoigigbggickaaDoor.Syn Go.Proofs.YtfoigigbggickaaDoor.Parse
set_option linter.unusedVariables false
set_option linter.unusedSimpArgs false
attribute [local go_sem ↓] Go.wp_at_zero Go.wp_at_succ

theorem as_sf (v : Value) (w : World) : (Instr.typeAssert (.iface 49 v) 20 49 true).run Tryd.prog w = .ok (.tuple #[v, .bool true]) w := by kernel_rfl
theorem as_nil (w : World) : (Instr.typeAssert .nilIface 20 49 true).run Tryd.prog w = .ok (.tuple #[.agg #[.int .i64 0, .int .i64 0], .bool false]) w := by kernel_rfl

set_option maxHeartbeats 1600000 in
set_option maxRecDepth 1000000 in
theorem catchP (r : Nat) (x : Value) (x1 x2 : Value) (cc : Int) (aa : Nat) (older : List PanicEntry) (w : World) (hr : w.heap[r]? = some (.cells #[x, x1, x2] 27)) :
    CallsD Tryd.prog 16 #[.pointer (some ⟨r, 0, none⟩)] (.panicking ({ v := .iface 49 (.agg #[.int .i64 cc, .int .i64 (aa : Int)]), recovered := false } :: older)) w fun e u' w' =>
      e = .returned (.tuple #[]) ∧ u' = .panicking ({ v := .iface 49 (.agg #[.int .i64 cc, .int .i64 (aa : Int)]), recovered := true } :: older) ∧ w'.heap[r]? = some (.cells #[.int .i64 cc, .int .i64 (aa : Int), .slice none 0 0] 27) ∧ w.grownBy w' (some r) := by
  have hlt := blk_lt hr
  have c0 := (blk_cell hr 0).trans rfl
  have c1 := (blk_cell hr 1).trans rfl
  have c2 := (blk_cell hr 2).trans rfl
  have f0 := blk_unfrozen hr 0
  have f1 := blk_unfrozen hr 1
  have f2 := blk_unfrozen hr 2
  have ta := as_sf (.agg #[.int .i64 cc, .int .i64 (aa : Int)])
  refine callsD_of_wpS Tryd.func16 rfl fun c₀ cs hu => ?_
  apply wpS_seq
  apply wpS_region
  simp [wpOpsS, go_sem, recoverD, hu, Tryd.ntmps16, Exit.thenS, ta]
  refine wpS_of_wp ?_
  simp only [Array.replicate, List.replicate, List.setIfInBounds_toArray, List.append_toArray]
  go_wp2_with fail
  have A : Below (((w.setCell ⟨r, 0, none⟩ (.int .i64 cc)).setCell ⟨r, 1, none⟩ (.int .i64 (aa : Int))).setCell ⟨r, 2, none⟩ (.slice none 0 0)).heap.size (((w.setCell ⟨r, 0, none⟩ (.int .i64 cc)).setCell ⟨r, 1, none⟩ (.int .i64 (aa : Int))).setCell ⟨r, 2, none⟩ (.slice none 0 0)) ((((w.setCell ⟨r, 0, none⟩ (.int .i64 cc)).setCell ⟨r, 1, none⟩ (.int .i64 (aa : Int))).setCell ⟨r, 2, none⟩ (.slice none 0 0)).alloc (.cells #[.int .i64 cc, .int .i64 (aa : Int)] 49)) := below_alloc' (Below.refl _ _) _
  refine ⟨rfl, _, rfl, _, (by simp [results, Tryd.results16, go_sem]; try rfl), rfl, rfl, ?_, ?_⟩
  · refine blk_below ?_ A
    have := blk_set (blk_set (blk_set hr 0 (.int .i64 cc)) 1 (.int .i64 (aa : Int))) 2 (.slice none 0 0)
    simpa using this
  · exact gb_then (gb_then (gb_then (gb_set _ _ _ _) (gb_set _ _ _ _)) (gb_set _ _ _ _)) (gb_below A)

set_option maxHeartbeats 1600000 in
set_option maxRecDepth 1000000 in
theorem catchI (r : Nat) (w : World) :
    CallsD Tryd.prog 16 #[.pointer (some ⟨r, 0, none⟩)] .returning w fun e u' w' => e = .returned (.tuple #[]) ∧ u' = .returning ∧ Below w.heap.size w w' := by
  have ta := as_nil
  refine callsD_of_wpS Tryd.func16 rfl fun c₀ cs hu => ?_
  apply wpS_seq
  apply wpS_region
  simp [wpOpsS, go_sem, recoverD, hu, Tryd.ntmps16, Exit.thenS, ta]
  refine wpS_of_wp ?_
  simp only [Array.replicate, List.replicate, List.setIfInBounds_toArray, List.append_toArray]
  go_wp2_with fail
  refine ⟨rfl, .returning, ?_, _, (by simp [results, Tryd.results16, go_sem]; try rfl), rfl, rfl, ?_⟩
  · cases c₀
    simp_all
  · exact below_alloc' (Below.refl _ _) _

theorem Its.low {w : World} {s s' e : Nat} {cs : List Value} {L : List Im} (h : Its w s e cs L) (hs : s' ≤ s) : ∃ e', e' ≤ e ∧ Its w s' e' cs L := by
  induction h with
  | nil => exact ⟨s', hs, .nil⟩
  | snoc e e' cs L im vE vF m h hi hb hm ih =>
    obtain ⟨e1, h1, h2⟩ := ih
    exact ⟨e', Nat.le_refl _, .snoc e1 e' cs L im vE vF m h2 (hi.low h1) hb hm⟩
/-- What ParseProg answers. -/
def ansP (t : List UInt8) : Int × Nat × List Im := if 65536 < t.length then (1, 0, []) else match progP (tkT t) (fuelT t) with
  | .out => (0, 0, [])
  | .bad c a => (c, a, [])
  | .ok L => (0, 0, L)
/-- The answer in memory of its own. -/
def AnsO (t : List UInt8) (w : World) (e : Ending) (w' : World) : Prop := ∃ iv cs s, e = .returned (.agg #[.int .i64 (ansP t).1, .int .i64 ((ansP t).2.1 : Int), iv]) ∧ w'.ownsRow w.heap.size 45 7 iv (ansP t).2.2.length cs ∧ Its w' w.heap.size s cs (ansP t).2.2 ∧ Below w.heap.size w w'

set_option maxHeartbeats 3200000 in
set_option maxRecDepth 1000000 in
theorem parseProgI (a : Option Addr) (t : List UInt8) (n c : Nat) (w : World) (hn : n = t.length) (ht : Txt w.heap.size w (.slice a n c) t) (tw : TabW w) (tb : TabB w) :
    Calls Tryd.prog 6 #[.slice a n c] w fun e w' => AnsO t w e w' := by
  have hmf : ∀ (fn : Fn) (first cap : Array Value) (w : World), (Instr.makeFunc fn first cap).run Tryd.prog w = .ok (.func fn first cap) w := fun _ _ _ _ => rfl
  by_cases hbig : 65536 < n
  · have k1 : (65536 : Int) < (n : Int) := by omega
    have hA : Hid (ansP t = (1, 0, [])) := by unfold Hid ansP; rw [if_pos (by omega)]
    clear hn ht tw tb hbig
    go_enter_defers Tryd.func6, Tryd.ntmps6
    go_wp2
    have HQ : Hid (AnsO t w (.returned (.agg #[.int .i64 1, .int .i64 0, .slice none 0 0])) (w.alloc (.cells #[.int .i64 1, .int .i64 0, .slice none 0 0] 27))) := by
      unfold Hid AnsO
      rw [hA.out]
      exact ⟨.slice none 0 0, [], _, rfl, World.ownsRow_nil _ _ _ _, .nil, below_alloc' (Below.refl _ _) _⟩
    simp [bodyPostD, Leaves, settle, results, Tryd.results6, go_sem]
    exact HQ.out
  · have k1 : decide ((65536 : Int) < (n : Int)) = false := by simp; omega
    obtain ⟨W2, hW2⟩ : ∃ W, W = (w.alloc (.cells #[.int .i64 0, .int .i64 0, .slice none 0 0] 27)).alloc (.cells #[.slice a n c, .int .i64 0, .int .i64 0, .int .i64 0, .string ⟨#[]⟩, .int .i64 0, .int .i64 0, .int .i64 0] 57) := ⟨_, rfl⟩
    have A2 : Hid (Below w.heap.size w W2) := by rw [hW2]; exact below_alloc' (below_alloc' (Below.refl _ _) _) _
    have R2 : Hid (W2.heap[w.heap.size]? = some (.cells #[.int .i64 0, .int .i64 0, .slice none 0 0] 27)) := by rw [hW2]; exact blk_alloc (blk_new _ _) _
    have PX : Hid (Px w.heap.size (w.heap.size + 1) a c t ⟨0, ⟨0, 0, [], 0⟩, 0, 0⟩ W2) := by
      refine ⟨by rw [hW2, ← hn]; exact blk_new1 _ _ _, by rw [← hn]; exact ht.below A2.out, by omega, tw.below A2.out, tb.below A2.out, lt_of_cell (tw 0 (by omega)), lt_of_cell (tb 0 (by omega)), by omega, Nat.zero_le _⟩
    have CP := Hid.mk (programI w.heap.size (w.heap.size + 1) a c t W2 PX.out)
    have hA : Hid (ansP t = match progP (tkT t) (fuelT t) with
      | .out => (0, 0, [])
      | .bad c a => (c, a, [])
      | .ok L => (0, 0, L)) := by unfold Hid ansP; rw [if_neg (by omega)]
    have hs2 : w.heap.size + 2 ≤ W2.heap.size := by rw [hW2]; simp
    clear hn ht tw tb hbig PX
    go_enter_defers Tryd.func6, Tryd.ntmps6
    go_wp2_with fail
    rw [← hW2]
    clear hW2
    refine CP.out.mono ?_
    rintro e w3 ⟨p, g⟩
    have R3 := Hid.mk (blk_grown' R2.out g (by omega))
    have B3 : Hid (Below w.heap.size w w3) := A2.out.trans (below_of_grown g (by omega) (by omega))
    cases hr : progP (tkT t) (fuelT t) with
    | out => exact absurd hr (progP_no t)
    | bad cc aa =>
      rw [hr] at p
      have p : e = .panicked (flV cc aa) := p
      subst p
      rw [hr] at hA
      refine leaves_cons (f := 16) (args := #[.pointer (some ⟨w.heap.size, 0, none⟩)]) (by simp) (by simp [go_sem]) ?_
      refine (catchP w.heap.size _ _ _ cc aa [] w3 R3.out).mono ?_
      rintro e u' w4 ⟨rfl, rfl, hb4, g4⟩
      have z0 := (blk_cell hb4 0).trans rfl
      have z1 := (blk_cell hb4 1).trans rfl
      have z2 := (blk_cell hb4 2).trans rfl
      have HQ : Hid (AnsO t w (.returned (.agg #[.int .i64 cc, .int .i64 (aa : Int), .slice none 0 0])) w4) := by
        unfold Hid AnsO
        rw [hA.out]
        exact ⟨.slice none 0 0, [], _, rfl, World.ownsRow_nil _ _ _ _, .nil, B3.out.trans (below_of_grown g4 (Nat.le_refl _) B3.out.size)⟩
      simp [Leaves, settle, results, Tryd.results6, go_sem, z0, z1, z2]
      exact HQ.out
    | ok L =>
      rw [hr] at p hA
      obtain ⟨iv, cs, s, rfl, row, its⟩ := p
      obtain ⟨ia, ic, rfl, -⟩ := row_shape row
      obtain ⟨LN, hLN⟩ : ∃ n, n = L.length := ⟨_, rfl⟩
      rw [← hLN] at row ⊢
      have z0 := (blk_cell R3.out 0).trans rfl
      have z1 := (blk_cell R3.out 1).trans rfl
      have z2 := (blk_cell R3.out 2).trans rfl
      have q0 := blk_unfrozen R3.out 0
      have q1 := blk_unfrozen R3.out 1
      have q2 := blk_unfrozen R3.out 2
      have HROW := Hid.mk row
      have HITS := Hid.mk its
      have HLN := Hid.mk hLN
      clear row its hLN g
      go_wp2
      obtain ⟨Z, hZ⟩ : ∃ W, W = (((w3.setCell ⟨w.heap.size, 0, none⟩ (.int .i64 0)).setCell ⟨w.heap.size, 1, none⟩ (.int .i64 0)).setCell ⟨w.heap.size, 2, none⟩ (.slice ia LN ic)) := ⟨_, rfl⟩
      have RZ : Hid (Z.heap[w.heap.size]? = some (.cells #[.int .i64 0, .int .i64 0, .slice ia LN ic] 27)) := by
        unfold Hid
        rw [hZ]
        have := blk_set (blk_set (blk_set R3.out 0 (.int .i64 0)) 1 (.int .i64 0)) 2 (.slice ia LN ic)
        simpa using this
      have oth : ∀ g o, w.heap.size < g → w3.heap[g]? = some o → Z.heap[g]? = some o := fun g o hg ho => by
        rw [hZ, Below.heap_setCell _ _ _ _ (show g ≠ (⟨w.heap.size, 2, none⟩ : Addr).block by simp; omega), Below.heap_setCell _ _ _ _ (show g ≠ (⟨w.heap.size, 1, none⟩ : Addr).block by simp; omega), Below.heap_setCell _ _ _ _ (show g ≠ (⟨w.heap.size, 0, none⟩ : Addr).block by simp; omega)]; exact ho
      have BZ : Hid (Below w.heap.size w Z) := by
        unfold Hid
        rw [hZ]
        exact ((B3.out.setCell (p := ⟨w.heap.size, 0, none⟩) (Nat.le_refl _) _).setCell (p := ⟨w.heap.size, 1, none⟩) (Nat.le_refl _) _).setCell (p := ⟨w.heap.size, 2, none⟩) (Nat.le_refl _) _
      have ROWZ : Hid (Z.ownsRow w.heap.size 45 7 (.slice ia LN ic) LN cs) := by
        refine ⟨HROW.out.1, ?_⟩
        rcases HROW.out.2 with h0 | ⟨g, cap, cur, h1, h2, h3, h4⟩
        · exact Or.inl h0
        · exact Or.inr ⟨g, cap, cur, h1, by omega, oth g _ (by omega) h3, h4⟩
      obtain ⟨e', -, itsZ⟩ := (HITS.out.keep (fun g C fr hg hc => oth g _ (by omega) hc)).low (show w.heap.size ≤ W2.heap.size by omega)
      rw [← hZ]
      clear hZ z0 z1 z2 q0 q1 q2 oth
      refine leaves_cons (f := 16) (args := #[.pointer (some ⟨w.heap.size, 0, none⟩)]) (by simp) (by simp [go_sem]) ?_
      refine (catchI w.heap.size Z).mono ?_
      rintro e u' w5 ⟨rfl, rfl, hb5⟩
      have R5 := blk_below RZ.out hb5
      have z0 := (blk_cell R5 0).trans rfl
      have z1 := (blk_cell R5 1).trans rfl
      have z2 := (blk_cell R5 2).trans rfl
      have HQ : Hid (AnsO t w (.returned (.agg #[.int .i64 0, .int .i64 0, .slice ia LN ic])) w5) := by
        unfold Hid AnsO
        rw [hA.out]
        exact ⟨.slice ia LN ic, cs, e', rfl, by rw [← HLN.out]; exact row_below ROWZ.out hb5, itsZ.keep (ko_below hb5), below_then BZ.out hb5⟩
      simp [Leaves, settle, results, Tryd.results6, go_sem, z0, z1, z2]
      exact HQ.out
end Go.Proofs.YtfoigigbggickaaDoor.Par
