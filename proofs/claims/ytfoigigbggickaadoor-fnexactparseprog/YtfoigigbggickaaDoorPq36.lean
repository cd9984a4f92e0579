import Derived.Test.YtfoigigbggickaaDoorPq27
import Derived.Test.YtfoigigbggickaaDoorPq28
import Derived.Test.YtfoigigbggickaaDoorPq29
import Derived.Test.YtfoigigbggickaaDoorPq31
import Derived.Test.YtfoigigbggickaaDoorPq30
import Derived.Test.YtfoigigbggickaaDoorPq34
import Derived.Test.YtfoigigbggickaaDoorPq35
namespace Go.Proofs.YtfoigigbggickaaDoor.Par
open Go Go.RowKit Go.Proofs.YtfoigigbggickaaDoor.Mem Go.Proofs.YtfoigigbggickaaDoor.Syn Go.Proofs.YtfoigigbggickaaDoor.Parse
set_option linter.unusedVariables false
set_option linter.unusedSimpArgs false
set_option maxHeartbeats 6400000
set_option maxRecDepth 1000000
attribute [local go_sem ↓] Go.wp_at_zero Go.wp_at_succ
theorem dec80 {g N c a i o : Nat} {w wr : World} {st : List Ent} {out : List Po} {Q : Exit → Act → World → Prop} {v0 v3 ov wt v7 v8 v9 v10 v11 v12 v13 v15 : Value} {r : List Value} (hr : r.length = 357) {e : Ent} {g2 n sc k : Nat} (M : Hid (Mz g N c a w (i : Int) (o : Int) (.slice (some ⟨g2, 0, none⟩) n sc) (e :: st) ov out wr)) (hk0 : st.length = k) (hn0 : n = k + 1) (h0 : 0 < e.l) (h5 : e.l ≤ 100000) (hn : Hid (∀ r' wx, r'.length = 357 → Mz g N c a w (i : Int) (o : Int) (.slice (some ⟨g2, 0, none⟩) n sc) (⟨e.k, e.v, e.l - 1⟩ :: st) ov out wx → Q .normal (Fz w v0 v3 ov (.slice (some ⟨g2, 0, none⟩) n sc) wt v7 v8 v9 v10 v11 v12 v13 (.int .i64 (k : Int)) v15 r') wx)) :
    Code.wp Tryd.prog (sL (sR xCO)) Q (Fz w v0 v3 ov (.slice (some ⟨g2, 0, none⟩) n sc) wt v7 v8 v9 v10 v11 v12 v13 (.int .i64 (k : Int)) v15 r) wr := by
  obtain ⟨g3, hg3, -, hc, hB2, hgl⟩ := M.out.e.blk (by simp)
  cases hg3
  obtain ⟨y0, y1, y2⟩ := OwnE.at (pre := []) M.out.e
  rw [hk0] at y0 y1 y2
  have k1 : (0 : Int) ≤ (k : Int) := by omega
  have k2 : (k : Int) < (n : Int) := by omega
  have e9 : IntKind.i64.wrap ((e.l : Int) - 1) = ((e.l - 1 : Nat) : Int) := by rw [IntKind.wrap_i64]; omega
  have M2 := Hid.mk (M.out.setl (e.l - 1))
  rw [hk0] at M2
  obtain ⟨⟨C, hC⟩, -, -⟩ := M.out.e.setl 0
  have fz := blk_unfrozen hC (k * 3 + 2)
  clear hC
  clear hn0 hk0 h0 h5
  revert r
  refine @elim_out 357 _ ?_
  iterate 357 (intro _)
  show Code.wp _ _ _ _ _
  conv => arg 2; dsimp only [xCO, xNC, xNB, xN, xX, xL, x0, Tryd.f27, Option.getD, sR, sL, cT, cF, bk, lpo]
  conv => arg 4; dsimp only [Fz]
  go_wp2_with fail
  refine hn.out _ _ ?_ M2.out
  rfl
theorem cut87 {g N c a i o : Nat} {w wr : World} {st : List Ent} {out : List Po} {Q : Exit → Act → World → Prop} {v0 v3 ov wt v7 v8 v9 v10 v11 v12 v13 v15 : Value} {r : List Value} (hr : r.length = 357) {e : Ent} {g2 n sc k : Nat} (M : Hid (Mz g N c a w (i : Int) (o : Int) (.slice (some ⟨g2, 0, none⟩) n sc) (e :: st) ov out wr)) (hk0 : st.length = k) (hn0 : n = k + 1) (hn : Hid (∀ r', r'.length = 357 → Q .normal (Fz w v0 v3 ov (.slice (some ⟨g2, 0, none⟩) k sc) wt v7 v8 v9 v10 v11 v12 v13 (.int .i64 (k : Int)) v15 r') wr)) :
    Code.wp Tryd.prog (sL (sR (sR xCS))) Q (Fz w v0 v3 ov (.slice (some ⟨g2, 0, none⟩) n sc) wt v7 v8 v9 v10 v11 v12 v13 (.int .i64 (k : Int)) v15 r) wr := by
  obtain ⟨g3, hg3, -, hc, hB2, hgl⟩ := M.out.e.blk (by simp)
  cases hg3
  have k1 : (0 : Int) ≤ (k : Int) := by omega
  have k2 : (k : Int) ≤ (sc : Int) := by omega
  have k3 : k ≤ sc := by omega
  clear hn0 hk0
  revert r
  refine @elim_out 357 _ ?_
  iterate 357 (intro _)
  show Code.wp _ _ _ _ _
  conv => arg 2; dsimp only [xCS, xPC, xNC, xNB, xN, xX, xL, x0, Tryd.f27, Option.getD, sR, sL, cT, cF, bk, lpo]
  conv => arg 4; dsimp only [Fz]
  go_wp2_with fail
  refine hn.out _ ?_
  rfl
theorem fin85e {g N c a i o : Nat} {w wr : World} {st : List Ent} {out : List Po} {Q : Exit → Act → World → Prop} {v0 v3 ov wt v7 v8 v9 v10 v11 v12 v13 v15 : Value} {r : List Value} (hr : r.length = 357) {e : Ent} {g2 n sc k : Nat} (M : Hid (Mz g N c a w (i : Int) (o : Int) (.slice (some ⟨g2, 0, none⟩) n sc) (e :: st) ov out wr)) (hk0 : st.length = k) (hn0 : n = k + 1) (h5 : e.k ≠ 5) (hn : Hid (∀ r', r'.length = 357 → Q .normal (Fz w v0 v3 ov (.slice (some ⟨g2, 0, none⟩) n sc) wt v7 v8 v9 v10 v11 v12 v13 (.int .i64 (k : Int)) v15 r') wr)) :
    Code.wp Tryd.prog (sL (sR xCS)) Q (Fz w v0 v3 ov (.slice (some ⟨g2, 0, none⟩) n sc) wt v7 v8 v9 v10 v11 v12 v13 (.int .i64 (k : Int)) v15 r) wr := by
  obtain ⟨g3, hg3, -, hc, hB2, hgl⟩ := M.out.e.blk (by simp)
  cases hg3
  obtain ⟨y0, y1, y2⟩ := OwnE.at (pre := []) M.out.e
  rw [hk0] at y0 y1 y2
  have k1 : (0 : Int) ≤ (k : Int) := by omega
  have k2 : (k : Int) < (n : Int) := by omega
  have h1 : ((e.k : Int) == 5) = false := by simp; omega
  clear hn0 hk0 h5
  revert r
  refine @elim_out 357 _ ?_
  iterate 357 (intro _)
  show Code.wp _ _ _ _ _
  conv => arg 2; dsimp only [xCS, xPC, xNC, xNB, xN, xX, xL, x0, Tryd.f27, Option.getD, sR, sL, cT, cF, bk, lpo]
  conv => arg 4; dsimp only [Fz]
  go_wp2_with fail
  refine hn.out _ ?_
  rfl
theorem fin85a {g N c a i o : Nat} {w wr : World} {st : List Ent} {out : List Po} {Q : Exit → Act → World → Prop} {v0 v3 wt v7 v8 v9 v10 v11 v12 v13 v15 : Value} {r : List Value} (hr : r.length = 357) {oa : Option Addr} {oc : Nat} {e : Ent} {g2 n sc k : Nat} (M : Hid (Mz g N c a w (i : Int) (o : Int) (.slice (some ⟨g2, 0, none⟩) n sc) (e :: st) (.slice oa out.length oc) out wr)) (hk0 : st.length = k) (hn0 : n = k + 1) (hl : out.length ≤ 100000) (h5 : e.k = 5) (hn : Hid (∀ r' ov' wx, r'.length = 357 → Mz g N c a w (i : Int) (o : Int) (.slice (some ⟨g2, 0, none⟩) n sc) (e :: st) ov' (out ++ [eop e]) wx → Q .normal (Fz w v0 v3 (ov') (.slice (some ⟨g2, 0, none⟩) n sc) wt v7 v8 v9 v10 v11 v12 v13 (.int .i64 (k : Int)) v15 r') wx)) :
    Code.wp Tryd.prog (sL (sR xCS)) Q (Fz w v0 v3 (.slice oa out.length oc) (.slice (some ⟨g2, 0, none⟩) n sc) wt v7 v8 v9 v10 v11 v12 v13 (.int .i64 (k : Int)) v15 r) wr := by
  obtain ⟨i0, hi0, hz0, hz1, hz2⟩ := info_parts infoO
  obtain ⟨g3, hg3, -, hc, hB2, hgl⟩ := M.out.e.blk (by simp)
  cases hg3
  obtain ⟨y0, y1, y2⟩ := OwnE.at (pre := []) M.out.e
  rw [hk0] at y0 y1 y2
  have k1 : (0 : Int) ≤ (k : Int) := by omega
  have k2 : (k : Int) < (n : Int) := by omega
  have h1 : ((e.k : Int) == 5) = true := by simp; omega
  have CE := Hid.mk (entOpS e wr)
  unfold opA at CE
  have hBs : w.heap.size ≤ wr.heap.size := M.out.bel.size
  clear hn0 hk0 h5
  revert r
  refine @elim_out 357 _ ?_
  iterate 357 (intro _)
  show Code.wp _ _ _ _ _
  conv => arg 2; dsimp only [xCS, xPC, xNC, xNB, xN, xX, xL, x0, Tryd.f27, Option.getD, sR, sL, cT, cF, bk, lpo]
  conv => arg 4; dsimp only [Fz]
  go_wp2_with (first | (go_at_call 48; go_must (refine CE.out.mono ?_; rintro e' w2 ⟨rfl, hb2⟩; have M3 := Hid.mk ((M.out.below hb2).al (.cells (eop e).cells.toArray 82)); have hs2 : w.heap.size ≤ w2.heap.size := Nat.le_trans hBs hb2.size; have O3 := Hid.mk M3.out.o; clear hb2)) | (at_builtin; go_must (refine wpList_append_own_at _ rfl _ _ 43 rfl w.heap.size 82 i0 (.agg #[.int .i64 0, .int .i64 0, .string ⟨#[]⟩]) 3 32 Tryd.underlying43 hi0 hz0 hz1 hz2 rfl (by decide) _ _ _ rfl O3.out ⟨w2.heap.size, 0, none⟩ 1 1 ((eop e) : Po).cells rfl rfl (newsO w2 (eop e)) (oneO _) (by unfold maxLen; omega) (by omega) (by simp; omega) ?_)) | (refine wpList_build1 rfl 43 82 _ rfl i0 _ Tryd.underlying43 hi0 hz0 3 hz1 ((eop e) : Po).cells rfl (fillO _ _ _) (by decide) (by decide) ?_))
  intro v' w4 hown hgrow _ hat
  have M4 := Hid.mk (M3.out.snoc (o := eop e) hown (gx_app hgrow (by simpa using hat)))
  clear hown hgrow hat O3 M
  refine Hid.out ?_
  refine Lib.hid ?_
  go_wp2_with fail
  refine hn.out _ _ _ ?_ M4.out
  rfl
end Go.Proofs.YtfoigigbggickaaDoor.Par
namespace Go.Proofs.YtfoigigbggickaaDoor.Par
open Go Go.RowKit Go.Proofs.YtfoigigbggickaaDoor.Mem Go.Proofs.YtfoigigbggickaaDoor.Syn Go.Proofs.YtfoigigbggickaaDoor.Parse
set_option linter.unusedVariables false
set_option linter.unusedSimpArgs false
set_option maxHeartbeats 6400000
set_option maxRecDepth 1000000
attribute [local go_sem ↓] Go.wp_at_zero Go.wp_at_succ
theorem ret77 {t : List UInt8} {g N c a i o : Nat} {w wr : World} {R : Rs (List Po × Nat × Nat)} {m : Nat} {st : List Ent} {out : List Po} {Q : Exit → Act → World → Prop} {v0 v3 ov sv wt v7 v8 v9 v10 v11 v12 v13 v14 v15 : Value} {r : List Value} (hr : r.length = 357) (hi : i < N) (ho : o ≤ 2000) (hk : (tkT t i).k < 50) (hR : R = .ok (out, i, o)) (M : Hid (Mz g N c a w (i : Int) (o : Int) sv st ov out wr)) (hq : Hid (∀ a' wx, RQ t g N c a w R m .ret a' wx → Q .ret a' wx)) :
    Code.wp Tryd.prog (sR (cT (sR xNB))) Q (Fz w v0 v3 ov sv wt v7 v8 v9 v10 v11 v12 v13 v14 v15 r) wr := by
  have HR := Hid.mk hR
  clear hR
  have b0 := (blk_cell M.out.b 0).trans rfl
  have b1 := (blk_cell M.out.b 1).trans rfl
  have b2 := (blk_cell M.out.b 2).trans rfl
  have b3 := (blk_cell M.out.b 3).trans rfl
  have b4 := (blk_cell M.out.b 4).trans rfl
  have r0 := (blk_cell M.out.r 0).trans rfl
  have r1 := (blk_cell M.out.r 1).trans rfl
  have r2 := (blk_cell M.out.r 2).trans rfl
  have r3 := (blk_cell M.out.r 3).trans rfl
  have r4 := (blk_cell M.out.r 4).trans rfl
  have fr0 := blk_unfrozen M.out.r 0
  have fr1 := blk_unfrozen M.out.r 1
  have fr2 := blk_unfrozen M.out.r 2
  have fr3 := blk_unfrozen M.out.r 3
  have fr4 := blk_unfrozen M.out.r 4
  revert r
  refine @elim_out 357 _ ?_
  iterate 357 (intro _)
  show Code.wp _ _ _ _ _
  conv => arg 2; dsimp only [xNB, xN, xX, xL, x0, Tryd.f27, Option.getD, sR, sL, cT, cF, bk, lpo]
  conv => arg 4; dsimp only [Fz]
  go_wp2_with fail
  refine hq.out _ _ ?_
  refine RQ.ret ?_
  refine bodyPost_ret (by simp [results, Tryd.results27, go_sem, r0, r1, r2, r3, r4]; try rfl) rfl ?_
  refine ⟨⟨i, o, 0, a⟩, ov, out, rfl, hi, ho, ?_, ?_, ?_⟩
  · exact (((((M.out.kr.set (Nat.le_succ _) 0 _).set (Nat.le_succ _) 1 _).set (Nat.le_succ _) 2 _).set (Nat.le_succ _) 3 _).set (Nat.le_succ _) 4 _).o
  · rw [den_ok hk, bnd_ok, HR.out]
  · exact (((((M.out.kr.set (Nat.le_succ _) 0 _).set (Nat.le_succ _) 1 _).set (Nat.le_succ _) 2 _).set (Nat.le_succ _) 3 _).set (Nat.le_succ _) 4 _).bel
end Go.Proofs.YtfoigigbggickaaDoor.Par
namespace Go.Proofs.YtfoigigbggickaaDoor.Par
open Go Go.RowKit Go.Proofs.YtfoigigbggickaaDoor.Mem Go.Proofs.YtfoigigbggickaaDoor.Syn Go.Proofs.YtfoigigbggickaaDoor.Parse
set_option linter.unusedVariables false
set_option linter.unusedSimpArgs false

variable {t : List UInt8} {g N c a i o : Nat} {w wr : World} {R : Rs (List Po × Nat × Nat)} {st : List Ent} {out : List Po} {v0 v3 ov sv wt v7 v8 v9 v10 v11 v12 v13 v14 v15 : Value} {r : List Value}
theorem bnV_no {x : Tk} (h : kS x ≠ 1 ∧ kS x ≠ 3) : bnV x.k = -1 := by
  unfold kS at h
  unfold bnV isB
  rw [if_neg]
  simp
  intro h8
  by_cases e : x.k = 50
  · omega
  by_cases e2 : x.k = 51
  · omega
  rw [if_neg (by omega), if_neg (by omega), if_neg e, if_neg e2] at h
  by_cases hn : x.n = []
  · rw [if_pos hn] at h; exact absurd rfl h.2
  · rw [if_neg hn] at h; exact absurd rfl h.1
/-- A binary operator: what is as strong is written, the operator waits. -/
theorem binR {bz : Int} {s : Nat} {st1 : List Ent} {out1 : List Po} {ov1 : Value} {sa : Option Addr} {sc : Nat} {w1 : World} (hr : r.length = 357) (hT : Hid (Tq t N g w)) (hNf : Hid (Nf t N)) (E : Hid (Ez t g N c a w R ⟨i, o, st, out, false⟩ sv ov wr)) (h50 : (tkT t i).k < 50) (hB : isB (tkT t i).k = true)
    (hbz : bz = ((tkT t i).k : Int) - 8) (hs : (s : Int) = bstr bz) (hd : dr s st1 out1 = dr s st out) (hl1 : st1.length + out1.length ≤ 100000) (hcmp : ¬ (bstr ((tkT t i).k - 8 : Int) = 3 ∧ cmpTop (dr 4 st out).1 = true)) (M : Hid (Mz g N c a w (i : Int) (o : Int) (.slice sa st1.length sc) st1 ov1 out1 w1)) :
    Code.wp Tryd.prog (.seq (sL (sR (sR xBI))) (.seq (sL (sR (sR (sR xBI)))) (.seq (sL (sR (sR (sR (sR xBI))))) (.seq (sL (sR (sR (sR (sR (sR xBI)))))) (.seq (sL (sR (sR (sR (sR (sR (sR xBI))))))) (sR (sR (sR (sR (sR (sR (sR xBI)))))))))))) (RQ t g N c a w R i) (Fz w v0 v3 ov1 (.slice sa st1.length sc) wt v7 v8 v9 v10 v11 v12 (.int .i64 bz) v14 (.int .i64 (s : Int)) r) w1 := by
  have hN5 := hNf.out.le
  have hi : i < N := E.out.hi
  have ho : o ≤ 2000 := E.out.o2
  have hln : st.length + out.length ≤ i := E.out.ln
  have hk8 : 8 ≤ (tkT t i).k := by unfold isB at hB; simp at hB; exact hB.1
  have hi1 : i + 1 < N := hNf.out.next hi (by omega) h50
  have hst := stp_n (o := o) (st := st) (out := out) h50
  rw [if_pos hB, if_neg hcmp] at hst
  have hb5 := bstr_in bz
  have hs6 : s ≤ 6 := by omega
  by_cases h2 : o = 2000
  · rw [if_pos h2] at hst
    exact wp_seq (chko68A hr M h2 (Hid.mk fun r' hr' => fail69 (m := 0) hr' hT.out hN5 hi ho (E.out.bad6 h50 hst) M (Hid.mk fun a' wx h => h)))
  rw [if_neg h2, ← hbz, ← hs, show ((s : Int)).toNat = s from Int.toNat_natCast s, ← hd] at hst
  have hsum := dr_sum s st1 out1
  refine wp_seq (chko68B hr M h2 (Hid.mk fun r1 hr1 => wp_skip ?_))
  refine wp_seq (dr70 hr1 M hl1 hs6 (Hid.mk fun r2 ov2 w2 hr2 M2 => ?_))
  refine wp_seq (push71 hr2 (Hid.mk M2) (by omega) (Hid.mk fun r3 sv3 w3 hr3 M3 => ?_))
  refine wp_seq (inc72 hr3 (Hid.mk M3) (by omega) (Hid.mk fun r4 hr4 => ?_))
  have M4 := M3.seto ((o + 1 : Nat) : Int)
  refine wp_seq (inc73 hr4 (Hid.mk M4) (by omega) (Hid.mk fun r5 hr5 => ?_))
  have M5 := M4.seti ((i + 1 : Nat) : Int)
  refine setw74 hr5 (Hid.mk fun r6 hr6 => ?_)
  refine RQ.norm ⟨i + 1, o + 1, ⟨3, bz, 0⟩ :: (dr s st1 out1).1, (dr s st1 out1).2, true⟩ hr6 rfl (Nat.lt_succ_self i) ⟨M5, ends_inl E.out.en hst, ?_, hi1, ?_, by show o + 1 ≤ 2000; omega⟩
  · show wf true _
    rw [wf, hd]
    exact Or.inr (Or.inl ⟨rfl, E.out.wf.dr5 (by omega) _⟩)
  · have h9 := dr_sum s st out
    rw [← hd] at h9
    simp
    omega
theorem binB (hr : r.length = 357) (hT : Hid (Tq t N g w)) (hNf : Hid (Nf t N)) (E : Hid (Ez t g N c a w R ⟨i, o, st, out, false⟩ sv ov wr)) (h50 : (tkT t i).k < 50) (hB : isB (tkT t i).k = true) :
    Code.wp Tryd.prog xBI (RQ t g N c a w R i) (Fz w v0 v3 ov sv wt v7 v8 v9 v10 v11 v12 (.int .i64 (((tkT t i).k : Int) - 8)) v14 v15 r) wr := by
  have hN5 := hNf.out.le
  have M : Hid (Mz g N c a w (i : Int) (o : Int) sv st ov out wr) := Hid.mk E.out.m
  have hi : i < N := E.out.hi
  have ho : o ≤ 2000 := E.out.o2
  have hln : st.length + out.length ≤ i := E.out.ln
  obtain ⟨sa, sc, rfl⟩ := M.out.eshape
  obtain ⟨bz, hbz⟩ : ∃ bz, bz = ((tkT t i).k : Int) - 8 := ⟨_, rfl⟩
  rw [← hbz]
  have hb5 := bstr_in bz
  obtain ⟨s, hs⟩ : ∃ s : Nat, (s : Int) = bstr bz := ⟨(bstr bz).toNat, by omega⟩
  rw [xBI_eq]
  refine wp_seq (str63 hr (Hid.mk fun r1 hr1 => ?_))
  rw [← hs]
  by_cases h3 : bstr bz = 3
  · have hs3 : s = 3 := by omega
    refine wp_seq (s64A hr1 (by omega) (Hid.mk fun r2 hr2 => ?_))
    refine wp_seq (x := sL (cT (sR (sL (sR xBI))))) (y := sR (cT (sR (sL (sR xBI))))) ?_
    refine dr65 hr2 M (by omega) (Hid.mk fun r3 ov3 w3 hr3 M3 => ?_)
    have hsum := dr_sum 4 st out
    have fin : cmpTop (dr 4 st out).1 = false → ∀ r4 : List Value, r4.length = 357 → Code.wp Tryd.prog (.seq (sL (sR (sR xBI))) (.seq (sL (sR (sR (sR xBI)))) (.seq (sL (sR (sR (sR (sR xBI))))) (.seq (sL (sR (sR (sR (sR (sR xBI)))))) (.seq (sL (sR (sR (sR (sR (sR (sR xBI))))))) (sR (sR (sR (sR (sR (sR (sR xBI)))))))))))) (RQ t g N c a w R i) (Fz w v0 v3 ov3 (.slice sa (dr 4 st out).1.length sc) wt v7 v8 v9 v10 v11 v12 (.int .i64 bz) v14 (.int .i64 (s : Int)) r4) w3 := fun hc r4 hr4 =>
      binR hr4 hT hNf E h50 hB hbz hs (by rw [hs3]; exact dr_idem (by omega) (by omega) st out) (by omega) (fun h => by rw [hc] at h; cases h.2) (Hid.mk M3)
    have M3 := Hid.mk M3
    cases hd4 : (dr 4 st out).1 with
    | nil =>
      rw [hd4] at fin
      exact cmp66eB hr3 (by simp) (Hid.mk fun r4 hr4 => wp_skip (fin rfl r4 hr4))
    | cons e rr =>
      have hl4 : (dr 4 st out).1.length = rr.length + 1 := by rw [hd4]; rfl
      rw [hd4] at M3 fin
      obtain ⟨g2, hg2, -⟩ := M3.out.e.blk (by simp)
      subst hg2
      have hrr : rr.length ≤ 100000 := by omega
      by_cases hk : e.k = 3
      · by_cases hb : bstr e.v = 3
        · refine cmp66sA (n := rr.length) hr3 M3 rfl hrr hk hb (Hid.mk fun r4 hr4 => ?_)
          have hst := stp_n (o := o) (st := st) (out := out) h50
          rw [if_pos hB, if_pos ⟨by rw [← hbz]; exact h3, by rw [hd4]; unfold cmpTop; simp [hk, hb]⟩] at hst
          exact fail67 (m := 0) hr4 hT.out hN5 hi ho (E.out.bad6 h50 hst) M3 (Hid.mk fun a' wx h => h)
        · exact cmp66sB (n := rr.length) hr3 M3 rfl hrr hk hb (Hid.mk fun r4 hr4 => wp_skip (fin (by unfold cmpTop; simp [hb]) r4 hr4))
      · exact cmp66kB (n := rr.length) hr3 M3 rfl hrr hk (Hid.mk fun r4 hr4 => wp_skip (fin (by unfold cmpTop; simp [hk]) r4 hr4))
  · refine wp_seq (s64B hr1 (by omega) (Hid.mk fun r2 hr2 => wp_skip ?_))
    exact binR hr2 hT hNf E h50 hB hbz hs rfl (by omega) (fun h => h3 (by rw [hbz]; exact h.1)) M
/-- Neither an operand nor an operator. -/
theorem nbB (hr : r.length = 357) (hT : Hid (Tq t N g w)) (hNf : Hid (Nf t N)) (E : Hid (Ez t g N c a w R ⟨i, o, st, out, false⟩ sv ov wr)) (h50 : (tkT t i).k < 50) (hB : isB (tkT t i).k = false) :
    Code.wp Tryd.prog xNB (RQ t g N c a w R i) (Fz w v0 v3 ov sv (.bool false) v7 v8 v9 v10 v11 v12 v13 (.int .i64 (innI st)) v15 r) wr := by
  have hN5 := hNf.out.le
  have M : Hid (Mz g N c a w (i : Int) (o : Int) sv st ov out wr) := Hid.mk E.out.m
  have hi : i < N := E.out.hi
  have ho : o ≤ 2000 := E.out.o2
  have hln : st.length + out.length ≤ i := E.out.ln
  have hst := stp_n (o := o) (st := st) (out := out) h50
  rw [if_neg (by rw [hB]; simp)] at hst
  have hsum := dr_sum 1 st out
  rcases wf.inner out E.out.wf with ⟨h1, h2, h3⟩ | ⟨e, pre, rr, h1, h2, h3, h4, h5, h6, h7⟩
  · simp only at h1 h2 h3
    rw [h2]
    simp only [h1] at hst
    obtain ⟨sa, sc, rfl⟩ := M.out.eshape
    refine in75A hr (by omega) (Hid.mk fun r1 hr1 => ?_)
    refine wp_seq (x := sL (cT (sR xNB))) (y := sR (cT (sR xNB))) ?_
    refine dr76 hr1 M (by omega) (Hid.mk fun r2 ov2 w2 hr2 M2 => ?_)
    exact ret77 (m := 0) hr2 hi ho h50 (ends_inr E.out.en hst) (Hid.mk M2) (Hid.mk fun a' wx h => h)
  · simp only at h1 h2 h3 h4
    rw [h3]
    simp only [h1] at hst
    obtain ⟨sa, sc, rfl⟩ := M.out.eshape
    have hne : st ≠ [] := by rw [h2]; simp
    obtain ⟨g2, hg2, -⟩ := M.out.e.blk hne
    subst hg2
    have M0 := M
    obtain ⟨n, hn⟩ : ∃ n, n = st.length := ⟨_, rfl⟩
    rw [← hn] at M ⊢
    rw [h2] at M
    have hn2 : (pre ++ e :: rr).length = n := by rw [hn, h2]
    refine in75B hr (by omega) (Hid.mk fun r1 hr1 => ?_)
    have hd1 : (dr 1 st out).1.length = rr.length + 1 := by rw [h4]; rfl
    by_cases hA : (tkT t i).k = 4 ∧ 0 < e.l
    · rw [if_pos hA] at hst
      refine com78A hr1 hT hN5 hi M rfl hn2 hA (Hid.mk fun r2 w2 hr2 hb2 => ?_)
      have M2 := Hid.mk (M0.out.below hb2)
      rw [hn]
      show Code.wp _ xCO _ _ _
      rw [xCO_eq]
      refine wp_seq (dr79 hr2 M2 (by omega) (Hid.mk fun r3 ov3 w3 hr3 M3 => ?_))
      rw [hd1, h4] at M3
      rw [hd1]
      refine wp_seq (dec80 hr3 (Hid.mk M3) rfl rfl hA.2 (by omega) (Hid.mk fun r4 w4 hr4 M4 => ?_))
      refine wp_seq (inc81 hr4 (Hid.mk M4) (by omega) (Hid.mk fun r5 hr5 => ?_))
      have M5 := M4.seti ((i + 1 : Nat) : Int)
      refine setw82 hr5 (Hid.mk fun r6 hr6 => ?_)
      rw [h4] at hst
      refine RQ.norm ⟨i + 1, o, ⟨e.k, e.v, e.l - 1⟩ :: rr, (dr 1 st out).2, true⟩ hr6 rfl (Nat.lt_succ_self i) ⟨M5, ends_inl E.out.en hst, ?_, hNf.out.next hi (by omega) h50, ?_, ho⟩
      · show wf true _
        rw [wf]
        exact Or.inr (Or.inr ⟨h5, by show e.l - 1 ≤ 2; omega, h7⟩)
      · simp; omega
    rw [if_neg hA] at hst
    have pc : ∀ (r2 : List Value) (w2 : World), r2.length = 357 → Below wr.heap.size wr w2 → Code.wp Tryd.prog xPC (RQ t g N c a w R i) (Fz w v0 v3 ov (.slice (some ⟨g2, 0, none⟩) n sc) (.bool false) v7 v8 v9 v10 v11 v12 v13 (.int .i64 (rr.length : Int)) v15 r2) w2 := fun r2 w2 hr2 hb2 => by
      have M2 := Hid.mk (M.out.below hb2)
      have M02 := Hid.mk (M0.out.below hb2)
      by_cases hC : (tkT t i).k = 6 ∧ e.l = 0
      · rw [if_pos hC] at hst
        refine clo83A hr2 hT hN5 hi M2 rfl hn2 hC (Hid.mk fun r3 w3 hr3 hb3 => ?_)
        have M3 := Hid.mk (M02.out.below hb3)
        rw [hn]
        show Code.wp _ xCS _ _ _
        rw [xCS_eq]
        refine wp_seq (dr84 hr3 M3 (by omega) (Hid.mk fun r4 ov4 w4 hr4 M4 => ?_))
        rw [hd1, h4] at M4
        rw [hd1]
        rw [h4] at hst
        obtain ⟨oa, oc, rfl⟩ := M4.oshape
        have last : ∀ (r5 : List Value) (ov5 : Value) (w5 : World), r5.length = 357 → Mz g N c a w (i : Int) (o : Int) (.slice (some ⟨g2, 0, none⟩) (rr.length + 1) sc) (e :: rr) ov5 ((dr 1 st out).2 ++ fin e) w5 → Code.wp Tryd.prog (.seq (sL (sR (sR xCS))) (.seq (sL (sR (sR (sR xCS)))) (sR (sR (sR (sR xCS)))))) (RQ t g N c a w R i) (Fz w v0 v3 ov5 (.slice (some ⟨g2, 0, none⟩) (rr.length + 1) sc) (.bool false) v7 v8 v9 v10 v11 v12 v13 (.int .i64 (rr.length : Int)) v15 r5) w5 := fun r5 ov5 w5 hr5 M5 => by
          refine wp_seq (cut87 hr5 (Hid.mk M5) rfl rfl (Hid.mk fun r6 hr6 => ?_))
          have M6 := M5.tail
          refine wp_seq (inc88 hr6 (Hid.mk M6) (by omega) (Hid.mk fun r7 hr7 => ?_))
          have M7 := M6.seti ((i + 1 : Nat) : Int)
          have hf1 : (fin e).length ≤ 1 := by unfold fin; split <;> simp
          refine dr89 hr7 (Hid.mk M7) (by simp; omega) (Hid.mk fun r8 ov8 w8 hr8 M8 => ?_)
          refine RQ.norm ⟨i + 1, o, (dr 6 rr ((dr 1 st out).2 ++ fin e)).1, (dr 6 rr ((dr 1 st out).2 ++ fin e)).2, false⟩ hr8 rfl (Nat.lt_succ_self i) ⟨M8, ends_inl E.out.en hst, h7.dr6 _, hNf.out.next hi (by omega) h50, ?_, ho⟩
          have := dr_sum 6 rr ((dr 1 st out).2 ++ fin e)
          simp at this ⊢
          omega
        by_cases hk5 : e.k = 5
        · refine wp_seq (fin85a hr4 (Hid.mk M4) rfl rfl (by omega) hk5 (Hid.mk fun r5 ov5 w5 hr5 M5 => ?_))
          exact last r5 ov5 w5 hr5 (by unfold fin; rw [if_pos hk5]; exact M5)
        · refine wp_seq (fin85e hr4 (Hid.mk M4) rfl rfl hk5 (Hid.mk fun r5 hr5 => ?_))
          exact last r5 _ _ hr5 (by unfold fin; rw [if_neg hk5, List.append_nil]; exact M4)
      · rw [if_neg hC] at hst
        by_cases h66 : (tkT t i).k = 6
        · refine clo83C hr2 hT hN5 hi M2 rfl hn2 (by omega) (Hid.mk fun r3 w3 hr3 hb3 => ?_)
          exact fail90 (m := 0) hr3 hT.out hN5 hi ho (E.out.bad6 h50 hst) (Hid.mk (M2.out.below hb3)) (Hid.mk fun a' wx h => h)
        · refine clo83B hr2 hT hN5 hi M2 rfl hn2 h66 (Hid.mk fun r3 w3 hr3 hb3 => ?_)
          exact fail90 (m := 0) hr3 hT.out hN5 hi ho (E.out.bad6 h50 hst) (Hid.mk (M2.out.below hb3)) (Hid.mk fun a' wx h => h)
    by_cases h44 : (tkT t i).k = 4
    · exact com78C hr1 hT hN5 hi M rfl hn2 (by omega) (Hid.mk fun r2 w2 hr2 hb2 => pc r2 w2 hr2 hb2)
    · exact com78B hr1 hT hN5 hi M rfl hn2 h44 (Hid.mk fun r2 w2 hr2 hb2 => pc r2 w2 hr2 hb2)
theorem noB {bt : Nat} {x : Tk} (hx : x = tkT t i) (hr : r.length = 357) (hT : Hid (Tq t N g w)) (hNf : Hid (Nf t N)) (E : Hid (Ez t g N c a w R ⟨i, o, st, out, false⟩ sv ov wr)) (h50 : (tkT t i).k < 50)
    (T1 : Hid (Tb w bt #[.int .i64 (kS x), .int .i64 x.v, .string ⟨(wS x).toArray⟩, .int .i64 (x.at' : Int)] 40 wr)) :
    Code.wp Tryd.prog xN (RQ t g N c a w R i) (Fz w v0 v3 ov sv (.bool false) (.pointer (some ⟨bt, 0, none⟩)) v8 v9 v10 v11 v12 v13 v14 v15 r) wr := by
  have hN5 := hNf.out.le
  have M : Hid (Mz g N c a w (i : Int) (o : Int) sv st ov out wr) := Hid.mk E.out.m
  have hi : i < N := E.out.hi
  have hln : st.length + out.length ≤ i := E.out.ln
  have hc : Hid (Tc x) := Hid.mk (by rw [hx]; exact tk_cl t i)
  obtain ⟨sa, sc, rfl⟩ := M.out.eshape
  rw [xN_eq]
  refine wp_seq (setb58 hr (Hid.mk fun r1 hr1 => ?_))
  have key : ∀ r2 : List Value, r2.length = 357 → Code.wp Tryd.prog (.seq (sL (sR (sR xN))) (sR (sR (sR xN)))) (RQ t g N c a w R i) (Fz w v0 v3 ov (.slice sa st.length sc) (.bool false) (.pointer (some ⟨bt, 0, none⟩)) v8 v9 v10 v11 v12 (.int .i64 (bnV x.k)) v14 v15 r2) wr := fun r2 hr2 => by
    refine wp_seq (inn61 hr2 M (by omega) (Hid.mk fun r3 hr3 => ?_))
    by_cases hB : isB (tkT t i).k = true
    · have hbz : bnV x.k = ((tkT t i).k : Int) - 8 := by rw [hx]; unfold bnV; rw [if_pos hB]
      have h8 : 8 ≤ (tkT t i).k := by unfold isB at hB; simp at hB; exact hB.1
      rw [hbz]
      exact b62A hr3 (by omega) (Hid.mk fun r4 hr4 => binB hr4 hT hNf E h50 hB)
    · have hB' : isB (tkT t i).k = false := by simpa using hB
      have hbz : bnV x.k = -1 := by rw [hx]; unfold bnV; rw [if_neg hB]
      exact b62B hr3 (by omega) (Hid.mk fun r4 hr4 => nbB hr4 hT hNf E h50 hB')
  by_cases h1 : kS x = 1
  · exact wp_seq (bin59A hr1 hc T1 h1 (Hid.mk fun r2 hr2 => key r2 hr2))
  by_cases h3 : kS x = 3
  · exact wp_seq (bin59C hr1 hc T1 h3 (Hid.mk fun r2 hr2 => key r2 hr2))
  refine wp_seq (bin59B hr1 hc T1 ⟨h1, h3⟩ (Hid.mk fun r2 hr2 => ?_))
  have := key r2 hr2
  rw [bnV_no ⟨h1, h3⟩] at this
  exact this
end Go.Proofs.YtfoigigbggickaaDoor.Par
