import Derived.Test.YtfoigigbggickaaDoorPq42
namespace Go.Proofs.YtfoigigbggickaaDoor.Par
open Go Go.RowKit Go.Proofs.YtfoigigbggickaaDoor.Mem Go.Proofs.YtfoigigbggickaaDoor.Syn Go.Proofs.YtfoigigbggickaaDoor.Parse
set_option linter.unusedVariables false
set_option linter.unusedSimpArgs false
set_option maxHeartbeats 6400000
set_option maxRecDepth 1000000
attribute [local go_sem ↓] Go.wp_at_zero Go.wp_at_succ
theorem itEnd41 {t : List UInt8} {g N c : Nat} {w wr : World} {s : Sg} {k : Int} {v0 v3 v7 v8 v9 v10 v11 v12 : Value} {r : List Value} (hr : r.length = 122) {PP : Ending → World → Prop} (hT : Hid (Tq t N g w)) (hN : Hid (Nf t N)) (hi : s.i < N) {ki zx zy zz : Int} {nm : ByteArray} {ea fa : Option Addr} {en ec fn fc : Nat} (M : Hid (Mj g N c w s #[.int .i64 ki, .string nm, .slice ea en ec, .slice fa fn fc, .int .i64 zx, .int .i64 zy, .int .i64 zz] wr)) (hn : Hid (∀ (s' : Sg) w', s'.i < N → s'.o = s.o → den (tkT t) s' = (den (tkT t) s).bnd (exp (tkT t) 3) → KR w wr w' → Below w.heap.size w w' → PP (.returned (.tuple #[s'.v g N c, .agg #[.int .i64 ki, .string nm, .slice ea en ec, .slice fa fn fc, .int .i64 zx, .int .i64 zy, .int .i64 zz]])) w')) :
    Code.wp Tryd.prog (sR (sR (sR (sR (sR (sR (sR (sR (sR (sR (sR (sR (sR (sR (sR (sR (sR (sR (sR (sR (sR y0))))))))))))))))))))) (bodyPost Tryd.prog Tryd.f15 PP) (Fi w k v0 v3 v7 v8 v9 v10 v11 v12 r) wr := by
  have MD := Hid.mk (M.out.below (Below.refl _ _).drew)
  have KD := Hid.mk (KR.below (w := w) (Below.refl wr.heap.size wr).drew)
  have HS : Hid ((fun wz => wz.cell? ⟨w.heap.size, 0, none⟩ = some (.slice (some ⟨g, 0, none⟩) N c) ∧ wz.cell? ⟨w.heap.size, 1, none⟩ = some (.int .i64 (s.i : Int)) ∧ wz.cell? ⟨w.heap.size, 2, none⟩ = some (.int .i64 (s.o : Int)) ∧ wz.cell? ⟨w.heap.size, 3, none⟩ = some (.int .i64 s.e) ∧ wz.cell? ⟨w.heap.size, 4, none⟩ = some (.int .i64 (s.a : Int)) ∧ wz.cell? ⟨w.heap.size + 3, 0, none⟩ = some (.int .i64 ki) ∧ wz.cell? ⟨w.heap.size + 3, 1, none⟩ = some (.string nm) ∧ wz.cell? ⟨w.heap.size + 3, 2, none⟩ = some (.slice ea en ec) ∧ wz.cell? ⟨w.heap.size + 3, 3, none⟩ = some (.slice fa fn fc) ∧ wz.cell? ⟨w.heap.size + 3, 4, none⟩ = some (.int .i64 zx) ∧ wz.cell? ⟨w.heap.size + 3, 5, none⟩ = some (.int .i64 zy) ∧ wz.cell? ⟨w.heap.size + 3, 6, none⟩ = some (.int .i64 zz)) wr.drew) := by unfold Hid; exact ⟨(blk_cell (MD.out).b 0).trans rfl, (blk_cell (MD.out).b 1).trans rfl, (blk_cell (MD.out).b 2).trans rfl, (blk_cell (MD.out).b 3).trans rfl, (blk_cell (MD.out).b 4).trans rfl, (blk_cell (MD.out).it 0).trans rfl, (blk_cell (MD.out).it 1).trans rfl, (blk_cell (MD.out).it 2).trans rfl, (blk_cell (MD.out).it 3).trans rfl, (blk_cell (MD.out).it 4).trans rfl, (blk_cell (MD.out).it 5).trans rfl, (blk_cell (MD.out).it 6).trans rfl⟩
  have CT := Hid.mk (takeD t g N c s 3 wr.drew (hT.out.below MD.out.bel) hN.out hi (by omega) (by omega))
  unfold Sg.v parV at CT
  revert r
  refine @elim_out 122 _ ?_
  iterate 122 (intro _)
  show Code.wp _ _ _ _ _
  conv => arg 2; dsimp only [y0, Tryd.f15, Option.getD, sR, sL, cT, cF, bk, lpo]
  conv => arg 4; dsimp only [Fi]
  go_upto_region 41 with fail
  refine wp_region_held_drew (S := (fun wz => wz.cell? ⟨w.heap.size, 0, none⟩ = some (.slice (some ⟨g, 0, none⟩) N c) ∧ wz.cell? ⟨w.heap.size, 1, none⟩ = some (.int .i64 (s.i : Int)) ∧ wz.cell? ⟨w.heap.size, 2, none⟩ = some (.int .i64 (s.o : Int)) ∧ wz.cell? ⟨w.heap.size, 3, none⟩ = some (.int .i64 s.e) ∧ wz.cell? ⟨w.heap.size, 4, none⟩ = some (.int .i64 (s.a : Int)) ∧ wz.cell? ⟨w.heap.size + 3, 0, none⟩ = some (.int .i64 ki) ∧ wz.cell? ⟨w.heap.size + 3, 1, none⟩ = some (.string nm) ∧ wz.cell? ⟨w.heap.size + 3, 2, none⟩ = some (.slice ea en ec) ∧ wz.cell? ⟨w.heap.size + 3, 3, none⟩ = some (.slice fa fn fc) ∧ wz.cell? ⟨w.heap.size + 3, 4, none⟩ = some (.int .i64 zx) ∧ wz.cell? ⟨w.heap.size + 3, 5, none⟩ = some (.int .i64 zy) ∧ wz.cell? ⟨w.heap.size + 3, 6, none⟩ = some (.int .i64 zz))) (by kernel_rfl) ?_ (fun hHeld => ?_)
  · exact HS.out
  refine wpAnyH_take (i := 0) (v := ?_) rfl (by kernel_rfl) (by kernel_rfl) (by kernel_rfl) (fun _ _ _ h => h) (Or.inl ⟨by rfl, ?_⟩) (by assumption) ?_
  rotate_left
  · intro w hSw; (try dsimp only at hSw); go_simp; (try with_reducible rfl)
  rotate_left
  simp only [Act.put, List.setIfInBounds_toArray, List.set_cons_zero, List.set_cons_succ, List.getElem_toArray, List.getElem_cons_zero, List.getElem_cons_succ]
  refine wpAnyH_take (i := 2) (v := ?_) rfl (by kernel_rfl) (by kernel_rfl) (by kernel_rfl) (fun _ _ _ h => h) (Or.inl ⟨by rfl, ?_⟩) (by assumption) ?_
  rotate_left
  · intro w hSw; (try dsimp only at hSw); go_simp; (try with_reducible rfl)
  rotate_left
  simp only [Act.put, List.setIfInBounds_toArray, List.set_cons_zero, List.set_cons_succ, List.getElem_toArray, List.getElem_cons_zero, List.getElem_cons_succ]
  refine wpAnyH_ready (rs := [1]) (by kernel_rfl) (by simp) ?_
  refine AllReadyH.cons rfl (fun K hK => ?_) ?_
  · go_simp
    refine (show Calls Tryd.prog 25 #[.agg #[.slice (some ⟨g, 0, none⟩) N c, .int .i64 (s.i : Int), .int .i64 (s.o : Int), .int .i64 s.e, .int .i64 (s.a : Int)], .string ⟨#[59]⟩] wr.drew _ from CT.out).mono ?_
    rintro e' w2 ⟨s', rfl, hs1, hs2, hs3, hb⟩
    have HS2 := Hid.mk hs2
    have HS3 := Hid.mk hs3
    clear hs2 hs3
    have M2 := Hid.mk (MD.out.below hb)
    have K2 := Hid.mk (KD.out.trans (KR.below (w := w) hb))
    clear hb CT HS
    have r0 := (blk_cell M2.out.r 0).trans rfl
    have r1 := (blk_cell M2.out.r 1).trans rfl
    have r2 := (blk_cell M2.out.r 2).trans rfl
    have r3 := (blk_cell M2.out.r 3).trans rfl
    have r4 := (blk_cell M2.out.r 4).trans rfl
    have fr0 := blk_unfrozen M2.out.r 0
    have fr1 := blk_unfrozen M2.out.r 1
    have fr2 := blk_unfrozen M2.out.r 2
    have fr3 := blk_unfrozen M2.out.r 3
    have fr4 := blk_unfrozen M2.out.r 4
    refine hK.out _ _ ?_ (fun hHeld => ?_)
    · exact ⟨(blk_cell (M2.out).b 0).trans rfl, (blk_cell (M2.out).b 1).trans rfl, (blk_cell (M2.out).b 2).trans rfl, (blk_cell (M2.out).b 3).trans rfl, (blk_cell (M2.out).b 4).trans rfl, (blk_cell (M2.out).it 0).trans rfl, (blk_cell (M2.out).it 1).trans rfl, (blk_cell (M2.out).it 2).trans rfl, (blk_cell (M2.out).it 3).trans rfl, (blk_cell (M2.out).it 4).trans rfl, (blk_cell (M2.out).it 5).trans rfl, (blk_cell (M2.out).it 6).trans rfl⟩
    clear hK K
    (try simp only [Act.put, List.setIfInBounds_toArray, List.set_cons_zero, List.set_cons_succ, List.getElem_toArray, List.getElem_cons_zero, List.getElem_cons_succ])
    refine wpAnyH_ready (rs := [3]) (by kernel_rfl) (by simp) ?_
    refine AllReadyH.cons rfl (fun K hK => ?_) ?_
    · go_simp
      obtain ⟨W3, hW3⟩ : ∃ W, W = (((((w2.setCell ⟨w.heap.size + 1, 0, none⟩ (.slice (some ⟨g, 0, none⟩) N c)).setCell ⟨w.heap.size + 1, 1, none⟩ (.int .i64 (s'.i : Int))).setCell ⟨w.heap.size + 1, 2, none⟩ (.int .i64 (s'.o : Int))).setCell ⟨w.heap.size + 1, 3, none⟩ (.int .i64 s'.e)).setCell ⟨w.heap.size + 1, 4, none⟩ (.int .i64 (s'.a : Int))) := ⟨_, rfl⟩
      rw [← hW3]
      have M3 : Hid (Mr g N c w s s' #[.int .i64 ki, .string nm, .slice ea en ec, .slice fa fn fc, .int .i64 zx, .int .i64 zy, .int .i64 zz] #[.int .i64 0, .string ⟨#[]⟩, .slice none 0 0, .slice none 0 0, .int .i64 0, .int .i64 0, .int .i64 0] W3) := by rw [hW3]; exact M2.out.toR s'
      have K3 : Hid (KR w w2 W3) := by rw [hW3]; exact M2.out.kR s'
      clear hW3 r0 r1 r2 r3 r4 fr0 fr1 fr2 fr3 fr4
      have q0 := (blk_cell M3.out.q 0).trans rfl
      have q1 := (blk_cell M3.out.q 1).trans rfl
      have q2 := (blk_cell M3.out.q 2).trans rfl
      have q3 := (blk_cell M3.out.q 3).trans rfl
      have q4 := (blk_cell M3.out.q 4).trans rfl
      have q5 := (blk_cell M3.out.q 5).trans rfl
      have q6 := (blk_cell M3.out.q 6).trans rfl
      have fq0 := blk_unfrozen M3.out.q 0
      have fq1 := blk_unfrozen M3.out.q 1
      have fq2 := blk_unfrozen M3.out.q 2
      have fq3 := blk_unfrozen M3.out.q 3
      have fq4 := blk_unfrozen M3.out.q 4
      have fq5 := blk_unfrozen M3.out.q 5
      have fq6 := blk_unfrozen M3.out.q 6
      refine hK.out _ _ ?_ (fun hHeld => ?_)
      · exact ⟨(blk_cell (M3.out).b 0).trans rfl, (blk_cell (M3.out).b 1).trans rfl, (blk_cell (M3.out).b 2).trans rfl, (blk_cell (M3.out).b 3).trans rfl, (blk_cell (M3.out).b 4).trans rfl, (blk_cell (M3.out).it 0).trans rfl, (blk_cell (M3.out).it 1).trans rfl, (blk_cell (M3.out).it 2).trans rfl, (blk_cell (M3.out).it 3).trans rfl, (blk_cell (M3.out).it 4).trans rfl, (blk_cell (M3.out).it 5).trans rfl, (blk_cell (M3.out).it 6).trans rfl⟩
      clear hK K
      (try simp only [Act.put, List.setIfInBounds_toArray, List.set_cons_zero, List.set_cons_succ, List.getElem_toArray, List.getElem_cons_zero, List.getElem_cons_succ])
      refine wpAnyH_ready (rs := [4]) (by kernel_rfl) (by simp) ?_
      refine AllReadyH.cons rfl (fun K hK => ?_) ?_
      · go_simp
        obtain ⟨W4, hW4⟩ : ∃ W, W = (((((((W3.setCell ⟨w.heap.size + 2, 0, none⟩ (.int .i64 ki)).setCell ⟨w.heap.size + 2, 1, none⟩ (.string nm)).setCell ⟨w.heap.size + 2, 2, none⟩ (.slice ea en ec)).setCell ⟨w.heap.size + 2, 3, none⟩ (.slice fa fn fc)).setCell ⟨w.heap.size + 2, 4, none⟩ (.int .i64 zx)).setCell ⟨w.heap.size + 2, 5, none⟩ (.int .i64 zy)).setCell ⟨w.heap.size + 2, 6, none⟩ (.int .i64 zz)) := ⟨_, rfl⟩
        rw [← hW4]
        have M4 : Hid (Mr g N c w s s' #[.int .i64 ki, .string nm, .slice ea en ec, .slice fa fn fc, .int .i64 zx, .int .i64 zy, .int .i64 zz] #[.int .i64 ki, .string nm, .slice ea en ec, .slice fa fn fc, .int .i64 zx, .int .i64 zy, .int .i64 zz] W4) := by rw [hW4]; exact M3.out.toI
        have K4 : Hid (KR w W3 W4) := by rw [hW4]; exact M3.out.kI
        clear hW4 q0 q1 q2 q3 q4 q5 q6 fq0 fq1 fq2 fq3 fq4 fq5 fq6
        refine hK.out _ _ ?_ (fun hHeld => ?_)
        · exact ⟨(blk_cell (M4.out).b 0).trans rfl, (blk_cell (M4.out).b 1).trans rfl, (blk_cell (M4.out).b 2).trans rfl, (blk_cell (M4.out).b 3).trans rfl, (blk_cell (M4.out).b 4).trans rfl, (blk_cell (M4.out).it 0).trans rfl, (blk_cell (M4.out).it 1).trans rfl, (blk_cell (M4.out).it 2).trans rfl, (blk_cell (M4.out).it 3).trans rfl, (blk_cell (M4.out).it 4).trans rfl, (blk_cell (M4.out).it 5).trans rfl, (blk_cell (M4.out).it 6).trans rfl⟩
        clear hK K
        (try simp only [Act.put, List.setIfInBounds_toArray, List.set_cons_zero, List.set_cons_succ, List.getElem_toArray, List.getElem_cons_zero, List.getElem_cons_succ])
        refine wpAnyH_done (by kernel_rfl) ?_ _
        have r0 := (blk_cell M4.out.r 0).trans rfl
        have r1 := (blk_cell M4.out.r 1).trans rfl
        have r2 := (blk_cell M4.out.r 2).trans rfl
        have r3 := (blk_cell M4.out.r 3).trans rfl
        have r4 := (blk_cell M4.out.r 4).trans rfl
        have q0 := (blk_cell M4.out.q 0).trans rfl
        have q1 := (blk_cell M4.out.q 1).trans rfl
        have q2 := (blk_cell M4.out.q 2).trans rfl
        have q3 := (blk_cell M4.out.q 3).trans rfl
        have q4 := (blk_cell M4.out.q 4).trans rfl
        have q5 := (blk_cell M4.out.q 5).trans rfl
        have q6 := (blk_cell M4.out.q 6).trans rfl
        go_wp2
        refine bodyPost_ret (by simp [results, Tryd.results15, go_sem, r0, r1, r2, r3, r4, q0, q1, q2, q3, q4, q5, q6]; try rfl) rfl ?_
        exact hn.out s' _ hs1 HS2.out HS3.out (K2.out.trans (K3.out.trans K4.out)) M4.out.bel
      exact AllReadyH.nil
    exact AllReadyH.nil
  exact AllReadyH.nil
theorem itFail6 {t : List UInt8} {g N c : Nat} {w wr : World} {s : Sg} {k : Int} {v0 v3 v7 v8 v9 v10 v11 v12 : Value} {r : List Value} (hr : r.length = 122) {PP : Ending → World → Prop} {KA KB : Act → World → Prop} (hT : Hid (Tq t N g w)) (hN : Hid (Nf t N)) (hi : s.i < N) {ki zx zy zz : Int} {nm : ByteArray} {ea fa : Option Addr} {en ec fn fc : Nat} (M : Hid (Mj g N c w s #[.int .i64 ki, .string nm, .slice ea en ec, .slice fa fn fc, .int .i64 zx, .int .i64 zy, .int .i64 zz] wr)) (hn : Hid (∀ (s' : Sg) w', s' = ⟨s.i, s.o, fcode 4 (tkT t s.i), (tkT t s.i).at'⟩ → KR w wr w' → Below w.heap.size w w' → PP (.returned (.tuple #[s'.v g N c, .agg #[.int .i64 ki, .string nm, .slice ea en ec, .slice fa fn fc, .int .i64 zx, .int .i64 zy, .int .i64 zz]])) w')) :
    Code.wp Tryd.prog (cT (sR (sL (sR yLT)))) (Exit.then KA (Exit.then KB (bodyPost Tryd.prog Tryd.f15 PP))) (Fi w k v0 v3 v7 v8 v9 v10 v11 v12 r) wr := by
  have MD := Hid.mk (M.out.below (Below.refl _ _).drew)
  have KD := Hid.mk (KR.below (w := w) (Below.refl wr.heap.size wr).drew)
  have HS : Hid ((fun wz => wz.cell? ⟨w.heap.size, 0, none⟩ = some (.slice (some ⟨g, 0, none⟩) N c) ∧ wz.cell? ⟨w.heap.size, 1, none⟩ = some (.int .i64 (s.i : Int)) ∧ wz.cell? ⟨w.heap.size, 2, none⟩ = some (.int .i64 (s.o : Int)) ∧ wz.cell? ⟨w.heap.size, 3, none⟩ = some (.int .i64 s.e) ∧ wz.cell? ⟨w.heap.size, 4, none⟩ = some (.int .i64 (s.a : Int)) ∧ wz.cell? ⟨w.heap.size + 3, 0, none⟩ = some (.int .i64 ki) ∧ wz.cell? ⟨w.heap.size + 3, 1, none⟩ = some (.string nm) ∧ wz.cell? ⟨w.heap.size + 3, 2, none⟩ = some (.slice ea en ec) ∧ wz.cell? ⟨w.heap.size + 3, 3, none⟩ = some (.slice fa fn fc) ∧ wz.cell? ⟨w.heap.size + 3, 4, none⟩ = some (.int .i64 zx) ∧ wz.cell? ⟨w.heap.size + 3, 5, none⟩ = some (.int .i64 zy) ∧ wz.cell? ⟨w.heap.size + 3, 6, none⟩ = some (.int .i64 zz)) wr.drew) := by unfold Hid; exact ⟨(blk_cell (MD.out).b 0).trans rfl, (blk_cell (MD.out).b 1).trans rfl, (blk_cell (MD.out).b 2).trans rfl, (blk_cell (MD.out).b 3).trans rfl, (blk_cell (MD.out).b 4).trans rfl, (blk_cell (MD.out).it 0).trans rfl, (blk_cell (MD.out).it 1).trans rfl, (blk_cell (MD.out).it 2).trans rfl, (blk_cell (MD.out).it 3).trans rfl, (blk_cell (MD.out).it 4).trans rfl, (blk_cell (MD.out).it 5).trans rfl, (blk_cell (MD.out).it 6).trans rfl⟩
  have CT := Hid.mk (failD t g N c s 4 wr.drew (hT.out.below MD.out.bel) hi hN.out.le)
  unfold Sg.v parV at CT
  revert r
  refine @elim_out 122 _ ?_
  iterate 122 (intro _)
  show Code.wp _ _ _ _ _
  conv => arg 2; dsimp only [yLT, y0, Tryd.f15, Option.getD, sR, sL, cT, cF, bk, lpo]
  conv => arg 4; dsimp only [Fi]
  go_upto_region 6 with fail
  refine wp_region_held_drew (S := (fun wz => wz.cell? ⟨w.heap.size, 0, none⟩ = some (.slice (some ⟨g, 0, none⟩) N c) ∧ wz.cell? ⟨w.heap.size, 1, none⟩ = some (.int .i64 (s.i : Int)) ∧ wz.cell? ⟨w.heap.size, 2, none⟩ = some (.int .i64 (s.o : Int)) ∧ wz.cell? ⟨w.heap.size, 3, none⟩ = some (.int .i64 s.e) ∧ wz.cell? ⟨w.heap.size, 4, none⟩ = some (.int .i64 (s.a : Int)) ∧ wz.cell? ⟨w.heap.size + 3, 0, none⟩ = some (.int .i64 ki) ∧ wz.cell? ⟨w.heap.size + 3, 1, none⟩ = some (.string nm) ∧ wz.cell? ⟨w.heap.size + 3, 2, none⟩ = some (.slice ea en ec) ∧ wz.cell? ⟨w.heap.size + 3, 3, none⟩ = some (.slice fa fn fc) ∧ wz.cell? ⟨w.heap.size + 3, 4, none⟩ = some (.int .i64 zx) ∧ wz.cell? ⟨w.heap.size + 3, 5, none⟩ = some (.int .i64 zy) ∧ wz.cell? ⟨w.heap.size + 3, 6, none⟩ = some (.int .i64 zz))) (by kernel_rfl) ?_ (fun hHeld => ?_)
  · exact HS.out
  refine wpAnyH_take (i := 0) (v := ?_) rfl (by kernel_rfl) (by kernel_rfl) (by kernel_rfl) (fun _ _ _ h => h) (Or.inl ⟨by rfl, ?_⟩) (by assumption) ?_
  rotate_left
  · intro w hSw; (try dsimp only at hSw); go_simp; (try with_reducible rfl)
  rotate_left
  simp only [Act.put, List.setIfInBounds_toArray, List.set_cons_zero, List.set_cons_succ, List.getElem_toArray, List.getElem_cons_zero, List.getElem_cons_succ]
  refine wpAnyH_take (i := 2) (v := ?_) rfl (by kernel_rfl) (by kernel_rfl) (by kernel_rfl) (fun _ _ _ h => h) (Or.inl ⟨by rfl, ?_⟩) (by assumption) ?_
  rotate_left
  · intro w hSw; (try dsimp only at hSw); go_simp; (try with_reducible rfl)
  rotate_left
  simp only [Act.put, List.setIfInBounds_toArray, List.set_cons_zero, List.set_cons_succ, List.getElem_toArray, List.getElem_cons_zero, List.getElem_cons_succ]
  refine wpAnyH_ready (rs := [1]) (by kernel_rfl) (by simp) ?_
  refine AllReadyH.cons rfl (fun K hK => ?_) ?_
  · go_simp
    refine (show Calls Tryd.prog 14 #[.agg #[.slice (some ⟨g, 0, none⟩) N c, .int .i64 (s.i : Int), .int .i64 (s.o : Int), .int .i64 s.e, .int .i64 (s.a : Int)], .int .i64 4] wr.drew _ from CT.out).mono ?_
    rintro e' w2 ⟨s', rfl, hs2, hb⟩
    have M2 := Hid.mk (MD.out.below hb)
    have K2 := Hid.mk (KD.out.trans (KR.below (w := w) hb))
    clear hb CT HS
    have r0 := (blk_cell M2.out.r 0).trans rfl
    have r1 := (blk_cell M2.out.r 1).trans rfl
    have r2 := (blk_cell M2.out.r 2).trans rfl
    have r3 := (blk_cell M2.out.r 3).trans rfl
    have r4 := (blk_cell M2.out.r 4).trans rfl
    have fr0 := blk_unfrozen M2.out.r 0
    have fr1 := blk_unfrozen M2.out.r 1
    have fr2 := blk_unfrozen M2.out.r 2
    have fr3 := blk_unfrozen M2.out.r 3
    have fr4 := blk_unfrozen M2.out.r 4
    refine hK.out _ _ ?_ (fun hHeld => ?_)
    · exact ⟨(blk_cell (M2.out).b 0).trans rfl, (blk_cell (M2.out).b 1).trans rfl, (blk_cell (M2.out).b 2).trans rfl, (blk_cell (M2.out).b 3).trans rfl, (blk_cell (M2.out).b 4).trans rfl, (blk_cell (M2.out).it 0).trans rfl, (blk_cell (M2.out).it 1).trans rfl, (blk_cell (M2.out).it 2).trans rfl, (blk_cell (M2.out).it 3).trans rfl, (blk_cell (M2.out).it 4).trans rfl, (blk_cell (M2.out).it 5).trans rfl, (blk_cell (M2.out).it 6).trans rfl⟩
    clear hK K
    (try simp only [Act.put, List.setIfInBounds_toArray, List.set_cons_zero, List.set_cons_succ, List.getElem_toArray, List.getElem_cons_zero, List.getElem_cons_succ])
    refine wpAnyH_ready (rs := [3]) (by kernel_rfl) (by simp) ?_
    refine AllReadyH.cons rfl (fun K hK => ?_) ?_
    · go_simp
      obtain ⟨W3, hW3⟩ : ∃ W, W = (((((w2.setCell ⟨w.heap.size + 1, 0, none⟩ (.slice (some ⟨g, 0, none⟩) N c)).setCell ⟨w.heap.size + 1, 1, none⟩ (.int .i64 (s'.i : Int))).setCell ⟨w.heap.size + 1, 2, none⟩ (.int .i64 (s'.o : Int))).setCell ⟨w.heap.size + 1, 3, none⟩ (.int .i64 s'.e)).setCell ⟨w.heap.size + 1, 4, none⟩ (.int .i64 (s'.a : Int))) := ⟨_, rfl⟩
      rw [← hW3]
      have M3 : Hid (Mr g N c w s s' #[.int .i64 ki, .string nm, .slice ea en ec, .slice fa fn fc, .int .i64 zx, .int .i64 zy, .int .i64 zz] #[.int .i64 0, .string ⟨#[]⟩, .slice none 0 0, .slice none 0 0, .int .i64 0, .int .i64 0, .int .i64 0] W3) := by rw [hW3]; exact M2.out.toR s'
      have K3 : Hid (KR w w2 W3) := by rw [hW3]; exact M2.out.kR s'
      clear hW3 r0 r1 r2 r3 r4 fr0 fr1 fr2 fr3 fr4
      have q0 := (blk_cell M3.out.q 0).trans rfl
      have q1 := (blk_cell M3.out.q 1).trans rfl
      have q2 := (blk_cell M3.out.q 2).trans rfl
      have q3 := (blk_cell M3.out.q 3).trans rfl
      have q4 := (blk_cell M3.out.q 4).trans rfl
      have q5 := (blk_cell M3.out.q 5).trans rfl
      have q6 := (blk_cell M3.out.q 6).trans rfl
      have fq0 := blk_unfrozen M3.out.q 0
      have fq1 := blk_unfrozen M3.out.q 1
      have fq2 := blk_unfrozen M3.out.q 2
      have fq3 := blk_unfrozen M3.out.q 3
      have fq4 := blk_unfrozen M3.out.q 4
      have fq5 := blk_unfrozen M3.out.q 5
      have fq6 := blk_unfrozen M3.out.q 6
      refine hK.out _ _ ?_ (fun hHeld => ?_)
      · exact ⟨(blk_cell (M3.out).b 0).trans rfl, (blk_cell (M3.out).b 1).trans rfl, (blk_cell (M3.out).b 2).trans rfl, (blk_cell (M3.out).b 3).trans rfl, (blk_cell (M3.out).b 4).trans rfl, (blk_cell (M3.out).it 0).trans rfl, (blk_cell (M3.out).it 1).trans rfl, (blk_cell (M3.out).it 2).trans rfl, (blk_cell (M3.out).it 3).trans rfl, (blk_cell (M3.out).it 4).trans rfl, (blk_cell (M3.out).it 5).trans rfl, (blk_cell (M3.out).it 6).trans rfl⟩
      clear hK K
      (try simp only [Act.put, List.setIfInBounds_toArray, List.set_cons_zero, List.set_cons_succ, List.getElem_toArray, List.getElem_cons_zero, List.getElem_cons_succ])
      refine wpAnyH_ready (rs := [4]) (by kernel_rfl) (by simp) ?_
      refine AllReadyH.cons rfl (fun K hK => ?_) ?_
      · go_simp
        obtain ⟨W4, hW4⟩ : ∃ W, W = (((((((W3.setCell ⟨w.heap.size + 2, 0, none⟩ (.int .i64 ki)).setCell ⟨w.heap.size + 2, 1, none⟩ (.string nm)).setCell ⟨w.heap.size + 2, 2, none⟩ (.slice ea en ec)).setCell ⟨w.heap.size + 2, 3, none⟩ (.slice fa fn fc)).setCell ⟨w.heap.size + 2, 4, none⟩ (.int .i64 zx)).setCell ⟨w.heap.size + 2, 5, none⟩ (.int .i64 zy)).setCell ⟨w.heap.size + 2, 6, none⟩ (.int .i64 zz)) := ⟨_, rfl⟩
        rw [← hW4]
        have M4 : Hid (Mr g N c w s s' #[.int .i64 ki, .string nm, .slice ea en ec, .slice fa fn fc, .int .i64 zx, .int .i64 zy, .int .i64 zz] #[.int .i64 ki, .string nm, .slice ea en ec, .slice fa fn fc, .int .i64 zx, .int .i64 zy, .int .i64 zz] W4) := by rw [hW4]; exact M3.out.toI
        have K4 : Hid (KR w W3 W4) := by rw [hW4]; exact M3.out.kI
        clear hW4 q0 q1 q2 q3 q4 q5 q6 fq0 fq1 fq2 fq3 fq4 fq5 fq6
        refine hK.out _ _ ?_ (fun hHeld => ?_)
        · exact ⟨(blk_cell (M4.out).b 0).trans rfl, (blk_cell (M4.out).b 1).trans rfl, (blk_cell (M4.out).b 2).trans rfl, (blk_cell (M4.out).b 3).trans rfl, (blk_cell (M4.out).b 4).trans rfl, (blk_cell (M4.out).it 0).trans rfl, (blk_cell (M4.out).it 1).trans rfl, (blk_cell (M4.out).it 2).trans rfl, (blk_cell (M4.out).it 3).trans rfl, (blk_cell (M4.out).it 4).trans rfl, (blk_cell (M4.out).it 5).trans rfl, (blk_cell (M4.out).it 6).trans rfl⟩
        clear hK K
        (try simp only [Act.put, List.setIfInBounds_toArray, List.set_cons_zero, List.set_cons_succ, List.getElem_toArray, List.getElem_cons_zero, List.getElem_cons_succ])
        refine wpAnyH_done (by kernel_rfl) ?_ _
        have r0 := (blk_cell M4.out.r 0).trans rfl
        have r1 := (blk_cell M4.out.r 1).trans rfl
        have r2 := (blk_cell M4.out.r 2).trans rfl
        have r3 := (blk_cell M4.out.r 3).trans rfl
        have r4 := (blk_cell M4.out.r 4).trans rfl
        have q0 := (blk_cell M4.out.q 0).trans rfl
        have q1 := (blk_cell M4.out.q 1).trans rfl
        have q2 := (blk_cell M4.out.q 2).trans rfl
        have q3 := (blk_cell M4.out.q 3).trans rfl
        have q4 := (blk_cell M4.out.q 4).trans rfl
        have q5 := (blk_cell M4.out.q 5).trans rfl
        have q6 := (blk_cell M4.out.q 6).trans rfl
        go_wp2
        try (refine Hid.out ?_; refine Lib.hid ?_; show bodyPost _ _ _ _ _ _)
        refine bodyPost_ret (by simp [results, Tryd.results15, go_sem, r0, r1, r2, r3, r4, q0, q1, q2, q3, q4, q5, q6]; try rfl) rfl ?_
        exact hn.out s' _ hs2.out (K2.out.trans (K3.out.trans K4.out)) M4.out.bel
      exact AllReadyH.nil
    exact AllReadyH.nil
  exact AllReadyH.nil
end Go.Proofs.YtfoigigbggickaaDoor.Par
