import Derived.Test.YtefkdpppcjlflaaGreatDoorIt16
import Derived.Test.YtefkdpppcjlflaaGreatDoorIt11
import Derived.Deep.DeepCutAuto
import Derived.Test.YtefkdpppcjlflaaGreatDoorIt31
import Derived.Test.YtefkdpppcjlflaaGreatDoorIt32
namespace Go.Proofs.YtefkdpppcjlflaaGreatDoor.Draw
open Go Go.RowKit Go.Proofs.YtefkdpppcjlflaaGreatDoor.Mem Go.Proofs.YtefkdpppcjlflaaGreatDoor.Parse
set_option linter.unusedVariables false
set_option linter.unusedSimpArgs false
attribute [local go_sem ↓] Go.wp_at_zero Go.wp_at_succ

set_option maxHeartbeats 6400000 in
set_option maxRecDepth 1000000 in
theorem lwSeg3 (w wc : World) (rA rB : Nat) (a1 a2 a3 b1 b2 b3 : Option Addr) (c1 c2 c3 d1 d2 d3 : Nat) (I : In) (XA : Hid (w.heap[rA]? = some (.cells #[.slice a1 I.nV c1, .slice a2 I.nQ c2, .slice a3 I.nR c3] 27))) (XB : Hid (w.heap[rB]? = some (.cells #[.slice b1 I.nV d1, .slice b2 I.nQ d2, .slice b3 I.nR d3] 27))) (HS : Hid (InAt w a1 a2 a3 I)) (HS' : Hid (InAt w b1 b2 b3 I)) (h1 : I.nV ≤ 1048576) (h2 : I.nQ ≤ 1048576) (h3 : I.nR ≤ 1048576) (HB : Hid (Below w.heap.size w wc)) (PP : Ending → World → Prop) (u0 u1 u4 u5 u6 u7 u8 u9 u10 u11 u12 u13 u14 u15 u16 u17 u18 u19 u20 u21 u22 u23 u24 u25 u26 u27 u28 u29 u30 u31 u32 u33 u34 u35 u36 u37 u38 u39 u40 u41 u42 u43 u44 u45 u46 u47 u48 u49 u50 u51 u52 u53 u54 u55 u56 u57 u58 u59 u60 u61 u62 u63 u64 u65 u66 u67 u68 u69 u70 u71 u72 u73 u74 u75 u76 u77 u78 u79 u80 u81 u82 u83 u84 u85 u86 : Value) (K : Act → World → Prop) (hK : ∀ (v0 v1 v4 v5 v6 v7 v8 v9 v10 v11 v12 v13 v14 v15 v16 v17 v18 v19 v20 v21 v22 v23 v24 v25 v26 v27 v28 v29 v30 v31 v32 v33 v34 v35 v36 v37 v38 v39 v40 v41 v42 v43 v44 v45 v46 v47 v48 v49 v50 v51 v52 v53 v54 v55 v56 v57 v58 v59 v60 v61 v62 v63 v64 v65 v66 v67 v68 v69 v70 v71 v72 v73 v74 v75 v76 v77 v78 v79 v80 v81 v82 v83 v84 v85 v86 : Value) (wx : World), Hid (Below w.heap.size w wx) → K { tmps := #[v0, v1, .pointer (some ⟨rA, 0, none⟩), .pointer (some ⟨rB, 0, none⟩), v4, v5, v6, v7, v8, v9, v10, v11, v12, v13, v14, v15, v16, v17, v18, v19, v20, v21, v22, v23, v24, v25, v26, v27, v28, v29, v30, v31, v32, v33, v34, v35, v36, v37, v38, v39, v40, v41, v42, v43, v44, v45, v46, v47, v48, v49, v50, v51, v52, v53, v54, v55, v56, v57, v58, v59, v60, v61, v62, v63, v64, v65, v66, v67, v68, v69, v70, v71, v72, v73, v74, v75, v76, v77, v78, v79, v80, v81, v82, v83, v84, v85, v86], defers := [] } wx) :
    Code.wp Tryz.prog (sL (sR (sR (sR (sR (Tryz.f8.body.getD .skip)))))) (Exit.then K (bodyPost Tryz.prog Tryz.f8 PP)) { tmps := #[u0, u1, .pointer (some ⟨rA, 0, none⟩), .pointer (some ⟨rB, 0, none⟩), u4, u5, u6, u7, u8, u9, u10, u11, u12, u13, u14, u15, u16, u17, u18, u19, u20, u21, u22, u23, u24, u25, u26, u27, u28, u29, u30, u31, u32, u33, u34, u35, u36, u37, u38, u39, u40, u41, u42, u43, u44, u45, u46, u47, u48, u49, u50, u51, u52, u53, u54, u55, u56, u57, u58, u59, u60, u61, u62, u63, u64, u65, u66, u67, u68, u69, u70, u71, u72, u73, u74, u75, u76, u77, u78, u79, u80, u81, u82, u83, u84, u85, u86], defers := [] } wc := by
  conv =>
    arg 2
    dsimp only [Tryz.f8, Option.getD, sR, sL]
  conv =>
    arg 4
    dsimp only
  dsimp only at hK
  have HKK := Hid.mk hK
  clear hK
  obtain ⟨nn, hnn⟩ : ∃ x, x = I.nR := ⟨_, rfl⟩
  have HNN := Hid.mk hnn
  have hn : nn ≤ 1048576 := by rw [hnn]; exact h3
  have HV := Hid.mk HS.out.r
  have HV' := Hid.mk HS'.out.r
  rw [← hnn] at XA XB HV HV'
  clear hnn
  have y0 := (blk_cell (blk_below XA.out HB.out) 2).trans (show _ = some (.slice a3 nn c3) from rfl)
  go_wp2_with fail
  go_loopw [7] (fun i wr => ∃ k : Nat, k ≤ nn ∧ i = .int .i64 k ∧ Hid (Below w.heap.size w wr)) (fun i _ => nn - (intOf i).toNat)
  case atStart => exact ⟨0, Nat.zero_le _, rfl, HB⟩
  case round =>
    obtain ⟨k, hk, rfl, hb⟩ := hrel
    clear y0
    have y0 := (blk_cell (blk_below XA.out hb.out) 2).trans (show _ = some (.slice a3 nn c3) from rfl)
    by_cases hlt : k < nn
    · rcases HV.out with hs | ⟨b, off, rfl, hs⟩
      · omega
      rcases HV'.out with hs' | ⟨b', off', rfl, hs'⟩
      · omega
      have hr := rangeAt_below (hs k hlt) hb.out
      have hr' := rangeAt_below (hs' k hlt) hb.out
      obtain ⟨v, hv⟩ : ∃ v, v = I.R k := ⟨_, rfl⟩
      simp only [← hv] at hr hr'
      clear hv
      have y1 := (blk_cell (blk_below XB.out hb.out) 2).trans (show _ = some (.slice (some ⟨b', off', none⟩) nn d3) from rfl)
      have HS9 : Hid ((fun w' => w'.cell? ⟨rA, 2, none⟩ = some (.slice (some ⟨b, off, none⟩) nn c3) ∧ w'.cell? ⟨rB, 2, none⟩ = some (.slice (some ⟨b', off', none⟩) nn d3) ∧ w'.cell? ⟨b, off + k * 3, none⟩ = some (.int .i64 v.a) ∧ w'.cell? ⟨b, off + k * 3 + 1, none⟩ = some (.int .i64 v.b) ∧ w'.cell? ⟨b, off + k * 3 + 2, none⟩ = some (.int .i64 v.t) ∧ w'.cell? ⟨b', off' + k * 3, none⟩ = some (.int .i64 v.a) ∧ w'.cell? ⟨b', off' + k * 3 + 1, none⟩ = some (.int .i64 v.b) ∧ w'.cell? ⟨b', off' + k * 3 + 2, none⟩ = some (.int .i64 v.t)) wr) := ⟨y0, y1, (Rd.at hr).1, (Rd.at hr).2.1, (Rd.at hr).2.2, (Rd.at hr').1, (Rd.at hr').2.1, (Rd.at hr').2.2⟩
      clear hs hs' hr hr' y1
      have k0 : (0 : Int) ≤ (k : Int) := by omega
      have k1 : (k : Int) < (nn : Int) := by omega
      have e9 : IntKind.i64.wrap ((k : Int) + 1) = (k : Int) + 1 := by rw [IntKind.wrap_i64]; omega
      go_upto_region 16 with fail
      clear y0
      refine wp_region_held_drew (S := (fun w' => w'.cell? ⟨rA, 2, none⟩ = some (.slice (some ⟨b, off, none⟩) nn c3) ∧ w'.cell? ⟨rB, 2, none⟩ = some (.slice (some ⟨b', off', none⟩) nn d3) ∧ w'.cell? ⟨b, off + k * 3, none⟩ = some (.int .i64 v.a) ∧ w'.cell? ⟨b, off + k * 3 + 1, none⟩ = some (.int .i64 v.b) ∧ w'.cell? ⟨b, off + k * 3 + 2, none⟩ = some (.int .i64 v.t) ∧ w'.cell? ⟨b', off' + k * 3, none⟩ = some (.int .i64 v.a) ∧ w'.cell? ⟨b', off' + k * 3 + 1, none⟩ = some (.int .i64 v.b) ∧ w'.cell? ⟨b', off' + k * 3 + 2, none⟩ = some (.int .i64 v.t))) (by kernel_rfl) ?_ (fun hHeld => ?_)
      · exact HS9.out
      refine wpAnyH_take (i := 0) (v := ?_) rfl (by kernel_rfl) (by kernel_rfl) (by kernel_rfl) (fun _ _ _ h => h) (Or.inl ⟨by rfl, ?_⟩) (by assumption) ?_
      rotate_left
      · intro w hSw; (try dsimp only at hSw); go_simp; (try with_reducible rfl)
      rotate_left
      simp only [Act.put, List.setIfInBounds_toArray, List.set_cons_zero, List.set_cons_succ, List.getElem_toArray, List.getElem_cons_zero, List.getElem_cons_succ]
      refine wpAnyH_take (i := 1) (v := ?_) rfl (by kernel_rfl) (by kernel_rfl) (by kernel_rfl) (fun _ _ _ h => h) (Or.inl ⟨by rfl, ?_⟩) (by assumption) ?_
      rotate_left
      · intro w hSw; (try dsimp only at hSw); go_simp; (try with_reducible rfl)
      rotate_left
      simp only [Act.put, List.setIfInBounds_toArray, List.set_cons_zero, List.set_cons_succ, List.getElem_toArray, List.getElem_cons_zero, List.getElem_cons_succ]
      refine wpAnyH_take (i := 2) (v := ?_) rfl (by kernel_rfl) (by kernel_rfl) (by kernel_rfl) (fun _ _ _ h => h) (Or.inl ⟨by rfl, ?_⟩) (by assumption) ?_
      rotate_left
      · intro w hSw; (try dsimp only at hSw); go_simp; (try with_reducible rfl)
      rotate_left
      simp only [Act.put, List.setIfInBounds_toArray, List.set_cons_zero, List.set_cons_succ, List.getElem_toArray, List.getElem_cons_zero, List.getElem_cons_succ]
      refine wpAnyH_take (i := 3) (v := ?_) rfl (by kernel_rfl) (by kernel_rfl) (by kernel_rfl) (fun _ _ _ h => h) (Or.inl ⟨by rfl, ?_⟩) (by assumption) ?_
      rotate_left
      · intro w hSw; (try dsimp only at hSw); go_simp; (try with_reducible rfl)
      rotate_left
      simp only [Act.put, List.setIfInBounds_toArray, List.set_cons_zero, List.set_cons_succ, List.getElem_toArray, List.getElem_cons_zero, List.getElem_cons_succ]
      refine wpAnyH_take (i := 4) (v := ?_) rfl (by kernel_rfl) (by kernel_rfl) (by kernel_rfl) (fun _ _ _ h => h) (Or.inl ⟨by rfl, ?_⟩) (by assumption) ?_
      rotate_left
      · intro w hSw; (try dsimp only at hSw); go_simp; (try with_reducible rfl)
      rotate_left
      simp only [Act.put, List.setIfInBounds_toArray, List.set_cons_zero, List.set_cons_succ, List.getElem_toArray, List.getElem_cons_zero, List.getElem_cons_succ]
      refine wpAnyH_take (i := 5) (v := ?_) rfl (by kernel_rfl) (by kernel_rfl) (by kernel_rfl) (fun _ _ _ h => h) (Or.inl ⟨by rfl, ?_⟩) (by assumption) ?_
      rotate_left
      · intro w hSw; (try dsimp only at hSw); go_simp; (try with_reducible rfl)
      rotate_left
      simp only [Act.put, List.setIfInBounds_toArray, List.set_cons_zero, List.set_cons_succ, List.getElem_toArray, List.getElem_cons_zero, List.getElem_cons_succ]
      refine wpAnyH_take (i := 6) (v := ?_) rfl (by kernel_rfl) (by kernel_rfl) (by kernel_rfl) (fun _ _ _ h => h) (Or.inl ⟨by rfl, ?_⟩) (by assumption) ?_
      rotate_left
      · intro w hSw; (try dsimp only at hSw); go_simp; (try with_reducible rfl)
      rotate_left
      simp only [Act.put, List.setIfInBounds_toArray, List.set_cons_zero, List.set_cons_succ, List.getElem_toArray, List.getElem_cons_zero, List.getElem_cons_succ]
      refine wpAnyH_take (i := 7) (v := ?_) rfl (by kernel_rfl) (by kernel_rfl) (by kernel_rfl) (fun _ _ _ h => h) (Or.inl ⟨by rfl, ?_⟩) (by assumption) ?_
      rotate_left
      · intro w hSw; (try dsimp only at hSw); go_simp; (try with_reducible rfl)
      rotate_left
      simp only [Act.put, List.setIfInBounds_toArray, List.set_cons_zero, List.set_cons_succ, List.getElem_toArray, List.getElem_cons_zero, List.getElem_cons_succ]
      refine wpAnyH_take (i := 8) (v := ?_) rfl (by kernel_rfl) (by kernel_rfl) (by kernel_rfl) (fun _ _ _ h => h) (Or.inl ⟨by rfl, ?_⟩) (by assumption) ?_
      rotate_left
      · intro w hSw; (try dsimp only at hSw); go_simp; (try with_reducible rfl)
      rotate_left
      simp only [Act.put, List.setIfInBounds_toArray, List.set_cons_zero, List.set_cons_succ, List.getElem_toArray, List.getElem_cons_zero, List.getElem_cons_succ]
      refine wpAnyH_take (i := 9) (v := ?_) rfl (by kernel_rfl) (by kernel_rfl) (by kernel_rfl) (fun _ _ _ h => h) (Or.inl ⟨by rfl, ?_⟩) (by assumption) ?_
      rotate_left
      · intro w hSw; (try dsimp only at hSw); go_simp; (try with_reducible rfl)
      rotate_left
      simp only [Act.put, List.setIfInBounds_toArray, List.set_cons_zero, List.set_cons_succ, List.getElem_toArray, List.getElem_cons_zero, List.getElem_cons_succ]
      refine wpAnyH_take (i := 10) (v := ?_) rfl (by kernel_rfl) (by kernel_rfl) (by kernel_rfl) (fun _ _ _ h => h) (Or.inl ⟨by rfl, ?_⟩) (by assumption) ?_
      rotate_left
      · intro w hSw; (try dsimp only at hSw); go_simp; (try with_reducible rfl)
      rotate_left
      simp only [Act.put, List.setIfInBounds_toArray, List.set_cons_zero, List.set_cons_succ, List.getElem_toArray, List.getElem_cons_zero, List.getElem_cons_succ]
      refine wpAnyH_done (by kernel_rfl) ?_ _
      go_wp2_with fail
      exact ⟨⟨k + 1, by omega, by first | rfl | go_num, hb.out.drew⟩, by simp [intOf]; omega⟩
    · obtain rfl : nn = k := by omega
      have k2 : ¬ ((nn : Int) < (nn : Int)) := by omega
      go_wp2_with fail
      exact HKK.out _ _ _ _ _ _ _ _ _ _ _ _ _ _ _ _ _ _ _ _ _ _ _ _ _ _ _ _ _ _ _ _ _ _ _ _ _ _ _ _ _ _ _ _ _ _ _ _ _ _ _ _ _ _ _ _ _ _ _ _ _ _ _ _ _ _ _ _ _ _ _ _ _ _ _ _ _ _ _ _ _ _ _ _ _ _ hb
end Go.Proofs.YtefkdpppcjlflaaGreatDoor.Draw
namespace Go.Proofs.YtefkdpppcjlflaaGreatDoor.Draw
open Go Go.RowKit Go.Proofs.YtefkdpppcjlflaaGreatDoor.Mem Go.Proofs.YtefkdpppcjlflaaGreatDoor.Parse
set_option linter.unusedVariables false
set_option linter.unusedSimpArgs false
attribute [local go_sem ↓] Go.wp_at_zero Go.wp_at_succ

set_option maxHeartbeats 6400000 in
set_option maxRecDepth 1000000 in
theorem lwI (a1 a2 a3 b1 b2 b3 : Option Addr) (c1 c2 c3 d1 d2 d3 : Nat) (I : In) (w : World) (h : InAt w a1 a2 a3 I) (h' : InAt w b1 b2 b3 I) (h1 : I.nV ≤ 1048576) (h2 : I.nQ ≤ 1048576) (h3 : I.nR ≤ 1048576) :
    Calls Tryz.prog 8 #[.agg #[.slice a1 I.nV c1, .slice a2 I.nQ c2, .slice a3 I.nR c3], .agg #[.slice b1 I.nV d1, .slice b2 I.nQ d2, .slice b3 I.nR d3]] w fun e w' => e = .returned (.bool true) ∧ Below w.heap.size w w' := by
  obtain ⟨W0, hW0⟩ : ∃ W, W = w.alloc (.cells #[.slice a1 I.nV c1, .slice a2 I.nQ c2, .slice a3 I.nR c3] 27) := ⟨_, rfl⟩
  have hz0 : W0.heap.size = w.heap.size + 1 := by rw [hW0]; simp
  have A0 : Hid (Below w.heap.size w W0) := by rw [hW0]; exact below_alloc' (Below.refl _ _) _
  have X0 : Hid (W0.heap[w.heap.size]? = some (.cells #[.slice a1 I.nV c1, .slice a2 I.nQ c2, .slice a3 I.nR c3] 27)) := by rw [hW0]; exact blk_new _ _
  obtain ⟨W1, hW1⟩ : ∃ W, W = W0.alloc (.cells #[.slice b1 I.nV d1, .slice b2 I.nQ d2, .slice b3 I.nR d3] 27) := ⟨_, rfl⟩
  have A1 : Hid (Below W0.heap.size W0 W1) := by rw [hW1]; exact below_alloc' (Below.refl _ _) _
  have XA : Hid (W1.heap[w.heap.size]? = some (.cells #[.slice a1 I.nV c1, .slice a2 I.nQ c2, .slice a3 I.nR c3] 27)) := blk_below X0.out A1.out
  have XB : Hid (W1.heap[w.heap.size + 1]? = some (.cells #[.slice b1 I.nV d1, .slice b2 I.nQ d2, .slice b3 I.nR d3] 27)) := by rw [hW1, ← hz0]; exact blk_new _ _
  have HA := Hid.mk (below_then A0.out A1.out)
  have HS : Hid (InAt W1 a1 a2 a3 I) := ⟨h.v.below HA.out, h.q.below HA.out, h.r.below HA.out⟩
  have HS' : Hid (InAt W1 b1 b2 b3 I) := ⟨h'.v.below HA.out, h'.q.below HA.out, h'.r.below HA.out⟩
  clear h h' A0 A1 X0 hz0
  have y0 := (blk_cell XA.out 0).trans (show _ = some (.slice a1 I.nV c1) from rfl)
  have y1 := (blk_cell XA.out 1).trans (show _ = some (.slice a2 I.nQ c2) from rfl)
  have y2 := (blk_cell XA.out 2).trans (show _ = some (.slice a3 I.nR c3) from rfl)
  have x0 := (blk_cell XB.out 0).trans (show _ = some (.slice b1 I.nV d1) from rfl)
  have x1 := (blk_cell XB.out 1).trans (show _ = some (.slice b2 I.nQ d2) from rfl)
  have x2 := (blk_cell XB.out 2).trans (show _ = some (.slice b3 I.nR d3) from rfl)
  have HY := Hid.mk (And.intro y0 (And.intro y1 (And.intro y2 (And.intro x0 (And.intro x1 x2)))))
  clear y0 y1 y2 x0 x1 x2
  go_enter Tryz.func8, Tryz.ntmps8
  refine wp_seq_k (fun K0 h0 => ?_)
  have H0 := Hid.mk h0
  clear h0
  go_wp2_with fail
  rw [← hW0, ← hW1]
  clear hW0 hW1
  refine H0.out _ _ ?_
  clear H0 K0
  refine wp_seq_k (fun K1 h4 => ?_)
  have H4 := Hid.mk h4
  clear h4
  obtain ⟨y0, y1, y2, x0, x1, x2⟩ := HY.out
  go_wp2_with fail
  clear y0 y1 y2 x0 x1 x2 HY
  refine H4.out _ _ ?_
  clear H4 K1
  refine wp_seq_k (fun K5 h5 => ?_)
  refine lwSeg1 W1 _ w.heap.size (w.heap.size + 1) a1 a2 a3 b1 b2 b3 c1 c2 c3 d1 d2 d3 I XA XB HS HS' h1 h2 h3 (Below.refl _ _) _ _ _ _ _ _ _ _ _ _ _ _ _ _ _ _ _ _ _ _ _ _ _ _ _ _ _ _ _ _ _ _ _ _ _ _ _ _ _ _ _ _ _ _ _ _ _ _ _ _ _ _ _ _ _ _ _ _ _ _ _ _ _ _ _ _ _ _ _ _ _ _ _ _ _ _ _ _ _ _ _ _ _ _ _ _ _ ?_
  intro _ _ _ _ _ _ _ _ _ _ _ _ _ _ _ _ _ _ _ _ _ _ _ _ _ _ _ _ _ _ _ _ _ _ _ _ _ _ _ _ _ _ _ _ _ _ _ _ _ _ _ _ _ _ _ _ _ _ _ _ _ _ _ _ _ _ _ _ _ _ _ _ _ _ _ _ _ _ _ _ _ _ _ _ _ w2 B1
  refine h5 _ _ ?_
  clear h5 K5
  refine wp_seq_k (fun K6 h6 => ?_)
  refine lwSeg2 W1 _ w.heap.size (w.heap.size + 1) a1 a2 a3 b1 b2 b3 c1 c2 c3 d1 d2 d3 I XA XB HS HS' h1 h2 h3 B1 _ _ _ _ _ _ _ _ _ _ _ _ _ _ _ _ _ _ _ _ _ _ _ _ _ _ _ _ _ _ _ _ _ _ _ _ _ _ _ _ _ _ _ _ _ _ _ _ _ _ _ _ _ _ _ _ _ _ _ _ _ _ _ _ _ _ _ _ _ _ _ _ _ _ _ _ _ _ _ _ _ _ _ _ _ _ _ ?_
  intro _ _ _ _ _ _ _ _ _ _ _ _ _ _ _ _ _ _ _ _ _ _ _ _ _ _ _ _ _ _ _ _ _ _ _ _ _ _ _ _ _ _ _ _ _ _ _ _ _ _ _ _ _ _ _ _ _ _ _ _ _ _ _ _ _ _ _ _ _ _ _ _ _ _ _ _ _ _ _ _ _ _ _ _ _ w3 B2
  refine h6 _ _ ?_
  clear h6 K6
  refine wp_seq_k (fun K7 h7 => ?_)
  refine lwSeg3 W1 _ w.heap.size (w.heap.size + 1) a1 a2 a3 b1 b2 b3 c1 c2 c3 d1 d2 d3 I XA XB HS HS' h1 h2 h3 B2 _ _ _ _ _ _ _ _ _ _ _ _ _ _ _ _ _ _ _ _ _ _ _ _ _ _ _ _ _ _ _ _ _ _ _ _ _ _ _ _ _ _ _ _ _ _ _ _ _ _ _ _ _ _ _ _ _ _ _ _ _ _ _ _ _ _ _ _ _ _ _ _ _ _ _ _ _ _ _ _ _ _ _ _ _ _ _ ?_
  intro _ _ _ _ _ _ _ _ _ _ _ _ _ _ _ _ _ _ _ _ _ _ _ _ _ _ _ _ _ _ _ _ _ _ _ _ _ _ _ _ _ _ _ _ _ _ _ _ _ _ _ _ _ _ _ _ _ _ _ _ _ _ _ _ _ _ _ _ _ _ _ _ _ _ _ _ _ _ _ _ _ _ _ _ _ w4 B3
  refine h7 _ _ ?_
  clear h7 K7
  clear XA XB HS HS'
  go_wp2
  go_ret
  exact ⟨rfl, below_then HA.out B3.out⟩

end Go.Proofs.YtefkdpppcjlflaaGreatDoor.Draw
