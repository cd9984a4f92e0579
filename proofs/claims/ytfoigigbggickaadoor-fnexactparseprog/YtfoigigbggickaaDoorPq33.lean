import Derived.Test.YtfoigigbggickaaDoorPq27
import Derived.Test.YtfoigigbggickaaDoorPq28
import Derived.Test.YtfoigigbggickaaDoorPq29
import Derived.Test.YtfoigigbggickaaDoorPq31
import Derived.Test.YtfoigigbggickaaDoorPq32
namespace Go.Proofs.YtfoigigbggickaaDoor.Par
open Go Go.RowKit Go.Proofs.YtfoigigbggickaaDoor.Mem Go.Proofs.YtfoigigbggickaaDoor.Syn Go.Proofs.YtfoigigbggickaaDoor.Parse
set_option linter.unusedVariables false
set_option linter.unusedSimpArgs false
set_option maxHeartbeats 6400000
set_option maxRecDepth 1000000
attribute [local go_sem ↓] Go.wp_at_zero Go.wp_at_succ
theorem not30t {w wr : World} {Q : Exit → Act → World → Prop} {v0 v3 ov sv wt v8 v9 v10 v12 v13 v14 v15 : Value} {r : List Value} (hr : r.length = 357) {x : Tk} {bt : Nat} (T1 : Hid (Tb w bt #[.int .i64 (kS x), .int .i64 x.v, .string ⟨(wS x).toArray⟩, .int .i64 (x.at' : Int)] 40 wr)) (hw : (wS x == [110, 111, 116]) = true) (hn : Hid (∀ r', r'.length = 357 → Q .normal (Fz w v0 v3 ov sv wt (.pointer (some ⟨bt, 0, none⟩)) v8 v9 v10 (.int .i64 2) v12 v13 v14 v15 r') wr)) :
    Code.wp Tryd.prog (sL (sR (sR (sR xU)))) Q (Fz w v0 v3 ov sv wt (.pointer (some ⟨bt, 0, none⟩)) v8 v9 v10 (.int .i64 1) v12 v13 v14 v15 r) wr := by
  have t2 := (blk_cell T1.out.b 2).trans rfl
  revert r
  refine @elim_out 357 _ ?_
  iterate 357 (intro _)
  show Code.wp _ _ _ _ _
  conv => arg 2; dsimp only [xU, xNL, xW, xX, xL, x0, Tryd.f27, Option.getD, sR, sL, cT, cF, bk, lpo]
  conv => arg 4; dsimp only [Fz]
  go_wp2_with fail
  refine hn.out _ ?_
  rfl
theorem not30f {w wr : World} {Q : Exit → Act → World → Prop} {v0 v3 ov sv wt v8 v9 v10 v12 v13 v14 v15 : Value} {r : List Value} (hr : r.length = 357) {x : Tk} {bt : Nat} (T1 : Hid (Tb w bt #[.int .i64 (kS x), .int .i64 x.v, .string ⟨(wS x).toArray⟩, .int .i64 (x.at' : Int)] 40 wr)) (hw : (wS x == [110, 111, 116]) = false) (hn : Hid (∀ r', r'.length = 357 → Q .normal (Fz w v0 v3 ov sv wt (.pointer (some ⟨bt, 0, none⟩)) v8 v9 v10 (.int .i64 1) v12 v13 v14 v15 r') wr)) :
    Code.wp Tryd.prog (sL (sR (sR (sR xU)))) Q (Fz w v0 v3 ov sv wt (.pointer (some ⟨bt, 0, none⟩)) v8 v9 v10 (.int .i64 1) v12 v13 v14 v15 r) wr := by
  have t2 := (blk_cell T1.out.b 2).trans rfl
  revert r
  refine @elim_out 357 _ ?_
  iterate 357 (intro _)
  show Code.wp _ _ _ _ _
  conv => arg 2; dsimp only [xU, xNL, xW, xX, xL, x0, Tryd.f27, Option.getD, sR, sL, cT, cF, bk, lpo]
  conv => arg 4; dsimp only [Fz]
  go_wp2_with fail
  refine hn.out _ ?_
  rfl
theorem ent43 {g N c a i o : Nat} {w wr : World} {st : List Ent} {out : List Po} {Q : Exit → Act → World → Prop} {v0 v3 ov sv wt v7 v8 v9 v10 v11 v12 v13 v14 v15 : Value} {r : List Value} (hr : r.length = 357) (M : Hid (Mz g N c a w (i : Int) (o : Int) sv st ov out wr)) (hn : Hid (∀ r' be wx, r'.length = 357 → Below wr.heap.size wr wx → wr.heap.size ≤ be → Tb w be #[.int .i64 5, .int .i64 (0), .int .i64 (1)] 89 wx → Q .normal (Fz w v0 v3 ov sv wt v7 v8 v9 v10 v11 (.pointer (some ⟨be, 0, none⟩)) v13 v14 v15 r') wx)) :
    Code.wp Tryd.prog (sL (sR xCA)) Q (Fz w v0 v3 ov sv wt v7 v8 v9 v10 v11 v12 v13 v14 v15 r) wr := by
  revert r
  refine @elim_out 357 _ ?_
  iterate 357 (intro _)
  show Code.wp _ _ _ _ _
  conv => arg 2; dsimp only [xCA, xCL, xPO, xNL, xW, xX, xL, x0, Tryd.f27, Option.getD, sR, sL, cT, cF, bk, lpo]
  conv => arg 4; dsimp only [Fz]
  go_wp2_with fail
  refine hn.out _ _ _ ?_ (below_alloc' (Below.refl _ _) _) (Nat.le_refl _) (M.out.tb _ _)
  rfl
theorem max44t {w wr : World} {Q : Exit → Act → World → Prop} {v0 v3 ov sv wt v8 v9 v10 v11 v13 v14 v15 : Value} {r : List Value} (hr : r.length = 357) {x : Tk} {bt : Nat} (T1 : Hid (Tb w bt #[.int .i64 (kS x), .int .i64 x.v, .string ⟨(wS x).toArray⟩, .int .i64 (x.at' : Int)] 40 wr)) {be : Nat} (BE : Hid (Tb w be #[.int .i64 5, .int .i64 (0), .int .i64 (1)] 89 wr)) (hw : (wS x == [109, 97, 120]) = true) (hn : Hid (∀ r', r'.length = 357 → Q .normal (Fz w v0 v3 ov sv wt (.pointer (some ⟨bt, 0, none⟩)) v8 v9 v10 v11 (.pointer (some ⟨be, 0, none⟩)) v13 v14 v15 r') (wr.setCell ⟨be, 1, none⟩ (.int .i64 1)))) :
    Code.wp Tryd.prog (sL (sR (sR xCA))) Q (Fz w v0 v3 ov sv wt (.pointer (some ⟨bt, 0, none⟩)) v8 v9 v10 v11 (.pointer (some ⟨be, 0, none⟩)) v13 v14 v15 r) wr := by
  have t2 := (blk_cell T1.out.b 2).trans rfl
  have q1 := (blk_cell BE.out.b 1).trans rfl
  have fq1 := blk_unfrozen BE.out.b 1
  revert r
  refine @elim_out 357 _ ?_
  iterate 357 (intro _)
  show Code.wp _ _ _ _ _
  conv => arg 2; dsimp only [xCA, xCL, xPO, xNL, xW, xX, xL, x0, Tryd.f27, Option.getD, sR, sL, cT, cF, bk, lpo]
  conv => arg 4; dsimp only [Fz]
  go_wp2_with fail
  refine hn.out _ ?_
  rfl
theorem if46t {w wr : World} {Q : Exit → Act → World → Prop} {v0 v3 ov sv wt v8 v9 v10 v11 v13 v14 v15 : Value} {r : List Value} (hr : r.length = 357) {x : Tk} {bt : Nat} (T1 : Hid (Tb w bt #[.int .i64 (kS x), .int .i64 x.v, .string ⟨(wS x).toArray⟩, .int .i64 (x.at' : Int)] 40 wr)) {ev : Int} {be : Nat} (BE : Hid (Tb w be #[.int .i64 5, .int .i64 (ev), .int .i64 (1)] 89 wr)) (hw : (wS x == [105, 102]) = true) (hn : Hid (∀ r', r'.length = 357 → Q .normal (Fz w v0 v3 ov sv wt (.pointer (some ⟨bt, 0, none⟩)) v8 v9 v10 v11 (.pointer (some ⟨be, 0, none⟩)) v13 v14 v15 r') ((wr.setCell ⟨be, 1, none⟩ (.int .i64 2)).setCell ⟨be, 2, none⟩ (.int .i64 2)))) :
    Code.wp Tryd.prog (sL (sR (sR (sR xCA)))) Q (Fz w v0 v3 ov sv wt (.pointer (some ⟨bt, 0, none⟩)) v8 v9 v10 v11 (.pointer (some ⟨be, 0, none⟩)) v13 v14 v15 r) wr := by
  have t2 := (blk_cell T1.out.b 2).trans rfl
  have q1 := (blk_cell BE.out.b 1).trans rfl
  have q2 := (blk_cell BE.out.b 2).trans rfl
  have fq1 := blk_unfrozen BE.out.b 1
  have fq2 := blk_unfrozen BE.out.b 2
  revert r
  refine @elim_out 357 _ ?_
  iterate 357 (intro _)
  show Code.wp _ _ _ _ _
  conv => arg 2; dsimp only [xCA, xCL, xPO, xNL, xW, xX, xL, x0, Tryd.f27, Option.getD, sR, sL, cT, cF, bk, lpo]
  conv => arg 4; dsimp only [Fz]
  go_wp2_with fail
  refine hn.out _ ?_
  rfl
theorem max44f {w wr : World} {Q : Exit → Act → World → Prop} {v0 v3 ov sv wt v8 v9 v10 v11 v13 v14 v15 : Value} {r : List Value} (hr : r.length = 357) {x : Tk} {bt : Nat} (T1 : Hid (Tb w bt #[.int .i64 (kS x), .int .i64 x.v, .string ⟨(wS x).toArray⟩, .int .i64 (x.at' : Int)] 40 wr)) {be : Nat} (BE : Hid (Tb w be #[.int .i64 5, .int .i64 (0), .int .i64 (1)] 89 wr)) (hw : (wS x == [109, 97, 120]) = false) (hn : Hid (∀ r', r'.length = 357 → Q .normal (Fz w v0 v3 ov sv wt (.pointer (some ⟨bt, 0, none⟩)) v8 v9 v10 v11 (.pointer (some ⟨be, 0, none⟩)) v13 v14 v15 r') wr)) :
    Code.wp Tryd.prog (sL (sR (sR xCA))) Q (Fz w v0 v3 ov sv wt (.pointer (some ⟨bt, 0, none⟩)) v8 v9 v10 v11 (.pointer (some ⟨be, 0, none⟩)) v13 v14 v15 r) wr := by
  have t2 := (blk_cell T1.out.b 2).trans rfl
  have q1 := (blk_cell BE.out.b 1).trans rfl
  have fq1 := blk_unfrozen BE.out.b 1
  revert r
  refine @elim_out 357 _ ?_
  iterate 357 (intro _)
  show Code.wp _ _ _ _ _
  conv => arg 2; dsimp only [xCA, xCL, xPO, xNL, xW, xX, xL, x0, Tryd.f27, Option.getD, sR, sL, cT, cF, bk, lpo]
  conv => arg 4; dsimp only [Fz]
  go_wp2_with fail
  refine hn.out _ ?_
  rfl
theorem if46f {w wr : World} {Q : Exit → Act → World → Prop} {v0 v3 ov sv wt v8 v9 v10 v11 v13 v14 v15 : Value} {r : List Value} (hr : r.length = 357) {x : Tk} {bt : Nat} (T1 : Hid (Tb w bt #[.int .i64 (kS x), .int .i64 x.v, .string ⟨(wS x).toArray⟩, .int .i64 (x.at' : Int)] 40 wr)) {ev : Int} {be : Nat} (BE : Hid (Tb w be #[.int .i64 5, .int .i64 (ev), .int .i64 (1)] 89 wr)) (hw : (wS x == [105, 102]) = false) (hn : Hid (∀ r', r'.length = 357 → Q .normal (Fz w v0 v3 ov sv wt (.pointer (some ⟨bt, 0, none⟩)) v8 v9 v10 v11 (.pointer (some ⟨be, 0, none⟩)) v13 v14 v15 r') wr)) :
    Code.wp Tryd.prog (sL (sR (sR (sR xCA)))) Q (Fz w v0 v3 ov sv wt (.pointer (some ⟨bt, 0, none⟩)) v8 v9 v10 v11 (.pointer (some ⟨be, 0, none⟩)) v13 v14 v15 r) wr := by
  have t2 := (blk_cell T1.out.b 2).trans rfl
  have q1 := (blk_cell BE.out.b 1).trans rfl
  have q2 := (blk_cell BE.out.b 2).trans rfl
  have fq1 := blk_unfrozen BE.out.b 1
  have fq2 := blk_unfrozen BE.out.b 2
  revert r
  refine @elim_out 357 _ ?_
  iterate 357 (intro _)
  show Code.wp _ _ _ _ _
  conv => arg 2; dsimp only [xCA, xCL, xPO, xNL, xW, xX, xL, x0, Tryd.f27, Option.getD, sR, sL, cT, cF, bk, lpo]
  conv => arg 4; dsimp only [Fz]
  go_wp2_with fail
  refine hn.out _ ?_
  rfl
end Go.Proofs.YtfoigigbggickaaDoor.Par
namespace Go.Proofs.YtfoigigbggickaaDoor.Par
open Go Go.RowKit Go.Proofs.YtfoigigbggickaaDoor.Mem Go.Proofs.YtfoigigbggickaaDoor.Syn Go.Proofs.YtfoigigbggickaaDoor.Parse
set_option linter.unusedVariables false
set_option linter.unusedSimpArgs false

variable {t : List UInt8} {g N c a i o : Nat} {w wr : World} {R : Rs (List Po × Nat × Nat)} {st : List Ent} {out : List Po} {v0 v3 ov sv wt v7 v8 v9 v10 v11 v12 v13 v14 v15 : Value} {r : List Value}
/-- The word of a token whose kind is a word of the table. -/
theorem wS_k {x : Tk} (h : Tc x) {m : Nat} (h14 : 14 ≤ m) (hm : m < 50) (hk : 3 ≤ x.k) (hk2 : x.k < 50) : (wS x == twAt m) = decide (x.k = m) := by
  have := isW_k h (m := m) (by omega) hm
  cases h with
  | fin h hk' => omega
  | num h hk' => omega
  | word hn hw hl => rw [(Tc.kS_word hn hw).2, eqW _ _ h14 hm, hw]
  | sym hn h3 h14' =>
    rw [(Tc.kS_sym hn h3 h14').2]
    have hne : x.k ≠ m := by omega
    rw [decide_eq_false hne]
    refine Bool.eq_false_iff.2 fun e => ?_
    have e' : twAt x.k = twAt m := by simpa using e
    exact hne (congrArg Fin.val (tw_inj ⟨x.k, by omega⟩ ⟨m, hm⟩ h3 (by show 3 ≤ m; omega) e'))
theorem unB {bt : Nat} {x : Tk} (hx : x = tkT t i) (hr : r.length = 357) (hT : Hid (Tq t N g w)) (hNf : Hid (Nf t N)) (E : Hid (Ez t g N c a w R ⟨i, o, st, out, true⟩ sv ov wr)) (h50 : (tkT t i).k < 50) (hl : (leafR (tkT t i)).1 = false) (hk : (tkT t i).k = 10 ∨ (tkT t i).k = 47)
    (T1 : Hid (Tb w bt #[.int .i64 (kS x), .int .i64 x.v, .string ⟨(wS x).toArray⟩, .int .i64 (x.at' : Int)] 40 wr)) :
    Code.wp Tryd.prog xU (RQ t g N c a w R i) (Fz w v0 v3 ov sv (.bool true) (.pointer (some ⟨bt, 0, none⟩)) v8 v9 v10 v11 v12 v13 v14 v15 r) wr := by
  have hN5 := hNf.out.le
  have M : Hid (Mz g N c a w (i : Int) (o : Int) sv st ov out wr) := Hid.mk E.out.m
  have hi : i < N := E.out.hi
  have ho : o ≤ 2000 := E.out.o2
  have hln : st.length + out.length ≤ i := E.out.ln
  have hi1 : i + 1 < N := hNf.out.next hi (by omega) h50
  have hst := stp_nl (o := o) (st := st) (out := out) h50 hl
  rw [if_pos hk] at hst
  obtain ⟨sa, sc, rfl⟩ := M.out.eshape
  rw [xU_eq]
  by_cases h2 : o = 2000
  · rw [if_pos h2] at hst
    exact wp_seq (chko25A hr M h2 (Hid.mk fun r' hr' => fail26 (m := 0) hr' hT.out hN5 hi ho (E.out.bad6 h50 hst) M (Hid.mk fun a' wx h => h)))
  rw [if_neg h2] at hst
  refine wp_seq (chko25B hr M h2 (Hid.mk fun r1 hr1 => wp_skip ?_))
  by_cases h3 : opens st = 64
  · rw [if_pos h3] at hst
    exact wp_seq (opn27A hr1 M (by omega) h3 (Hid.mk fun r' hr' => fail28 (m := 0) hr' hT.out hN5 hi ho (E.out.bad6 h50 hst) M (Hid.mk fun a' wx h => h)))
  rw [if_neg h3] at hst
  refine wp_seq (opn27B hr1 M (by omega) h3 (Hid.mk fun r2 hr2 => wp_skip ?_))
  refine wp_seq (setk29 hr2 (Hid.mk fun r3 hr3 => ?_))
  have key : ∀ (k : Nat) (r4 : List Value), r4.length = 357 → k = (if (tkT t i).k = 10 then 1 else 2) → Code.wp Tryd.prog (.seq (sL (sR (sR (sR (sR xU))))) (.seq (sL (sR (sR (sR (sR (sR xU)))))) (sR (sR (sR (sR (sR (sR xU)))))))) (RQ t g N c a w R i) (Fz w v0 v3 ov (.slice sa st.length sc) (.bool true) (.pointer (some ⟨bt, 0, none⟩)) v8 v9 v10 (.int .i64 (k : Int)) v12 v13 v14 v15 r4) wr := fun k r4 hr4 hkk => by
    refine wp_seq (push32 hr4 M (by omega) (Hid.mk fun r5 sv5 w5 hr5 M5 => ?_))
    refine wp_seq (inc33 hr5 (Hid.mk M5) (by omega) (Hid.mk fun r6 hr6 => ?_))
    have M6 := M5.seto ((o + 1 : Nat) : Int)
    refine inc34 hr6 (Hid.mk M6) (by omega) (Hid.mk fun r7 hr7 => ?_)
    rw [← hkk] at hst
    refine RQ.norm ⟨i + 1, o + 1, ⟨k, 0, 0⟩ :: st, out, true⟩ hr7 rfl (Nat.lt_succ_self i) ⟨M6.seti ((i + 1 : Nat) : Int), ends_inl E.out.en hst, ?_, hi1, by simp; omega, by show o + 1 ≤ 2000; omega⟩
    show wf true _
    rw [wf]
    refine Or.inl ⟨rfl, ?_, E.out.wf⟩
    show k = 1 ∨ k = 2
    rw [hkk]
    split <;> simp
  by_cases h7 : (tkT t i).k = 47
  · exact wp_seq (not30t hr3 T1 (by rw [hx]; exact (wS_k (m := 47) (tk_cl t i) (by omega) (by omega) (by omega) h50).trans (by simp; exact h7)) (Hid.mk fun r4 hr4 => key 2 r4 hr4 (by rw [if_neg (by omega)])))
  · exact wp_seq (not30f hr3 T1 (by rw [hx]; exact (wS_k (m := 47) (tk_cl t i) (by omega) (by omega) (by omega) h50).trans (by simp; exact h7)) (Hid.mk fun r4 hr4 => key 1 r4 hr4 (by rw [if_pos (by omega)])))
theorem parB (hr : r.length = 357) (hT : Hid (Tq t N g w)) (hNf : Hid (Nf t N)) (E : Hid (Ez t g N c a w R ⟨i, o, st, out, true⟩ sv ov wr)) (h50 : (tkT t i).k < 50) (hl : (leafR (tkT t i)).1 = false) (hk : (tkT t i).k = 5) :
    Code.wp Tryd.prog xP (RQ t g N c a w R i) (Fz w v0 v3 ov sv (.bool true) v7 v8 v9 v10 v11 v12 v13 v14 v15 r) wr := by
  have hN5 := hNf.out.le
  have M : Hid (Mz g N c a w (i : Int) (o : Int) sv st ov out wr) := Hid.mk E.out.m
  have hi : i < N := E.out.hi
  have ho : o ≤ 2000 := E.out.o2
  have hln : st.length + out.length ≤ i := E.out.ln
  have hi1 : i + 1 < N := hNf.out.next hi (by omega) h50
  have hst := stp_nl (o := o) (st := st) (out := out) h50 hl
  rw [if_neg (show ¬ ((tkT t i).k = 10 ∨ (tkT t i).k = 47) by omega), if_pos hk] at hst
  obtain ⟨sa, sc, rfl⟩ := M.out.eshape
  rw [xP_eq]
  by_cases h3 : opens st = 64
  · rw [if_pos h3] at hst
    exact wp_seq (opn36A hr M (by omega) h3 (Hid.mk fun r' hr' => fail37 (m := 0) hr' hT.out hN5 hi ho (E.out.bad6 h50 hst) M (Hid.mk fun a' wx h => h)))
  rw [if_neg h3] at hst
  refine wp_seq (opn36B hr M (by omega) h3 (Hid.mk fun r2 hr2 => wp_skip ?_))
  refine wp_seq (push38 hr2 M (by omega) (Hid.mk fun r5 sv5 w5 hr5 M5 => ?_))
  refine inc39 hr5 (Hid.mk M5) (by omega) (Hid.mk fun r7 hr7 => ?_)
  refine RQ.norm ⟨i + 1, o, ⟨4, 0, 0⟩ :: st, out, true⟩ hr7 rfl (Nat.lt_succ_self i) ⟨M5.seti ((i + 1 : Nat) : Int), ends_inl E.out.en hst, ?_, hi1, by simp; omega, ho⟩
  show wf true _
  rw [wf]
  exact Or.inr (Or.inr ⟨by simp, by simp, E.out.wf⟩)
theorem callB {bt : Nat} {x : Tk} (hx : x = tkT t i) (hr : r.length = 357) (hT : Hid (Tq t N g w)) (hNf : Hid (Nf t N)) (E : Hid (Ez t g N c a w R ⟨i, o, st, out, true⟩ sv ov wr)) (h50 : (tkT t i).k < 50) (hl : (leafR (tkT t i)).1 = false) (hk : 25 ≤ (tkT t i).k ∧ (tkT t i).k ≤ 27)
    (T1 : Hid (Tb w bt #[.int .i64 (kS x), .int .i64 x.v, .string ⟨(wS x).toArray⟩, .int .i64 (x.at' : Int)] 40 wr)) :
    Code.wp Tryd.prog xCA (RQ t g N c a w R i) (Fz w v0 v3 ov sv (.bool true) (.pointer (some ⟨bt, 0, none⟩)) v8 v9 v10 v11 v12 v13 v14 v15 r) wr := by
  have hN5 := hNf.out.le
  have M : Hid (Mz g N c a w (i : Int) (o : Int) sv st ov out wr) := Hid.mk E.out.m
  have hi : i < N := E.out.hi
  have ho : o ≤ 2000 := E.out.o2
  have hln : st.length + out.length ≤ i := E.out.ln
  have hi1 : i + 1 < N := hNf.out.next hi (by omega) h50
  have hst := stp_nl (o := o) (st := st) (out := out) h50 hl
  rw [if_neg (show ¬ ((tkT t i).k = 10 ∨ (tkT t i).k = 47) by omega), if_neg (show ¬ (tkT t i).k = 5 by omega), if_pos hk] at hst
  obtain ⟨sa, sc, rfl⟩ := M.out.eshape
  rw [xCA_eq]
  by_cases h2 : o = 2000
  · rw [if_pos h2] at hst
    exact wp_seq (chko41A hr M h2 (Hid.mk fun r' hr' => fail42 (m := 0) hr' hT.out hN5 hi ho (E.out.bad6 h50 hst) M (Hid.mk fun a' wx h => h)))
  rw [if_neg h2] at hst
  refine wp_seq (chko41B hr M h2 (Hid.mk fun r1 hr1 => wp_skip ?_))
  refine wp_seq (ent43 hr1 M (Hid.mk fun r2 be w2 hr2 hb2 hbe B2 => ?_))
  obtain ⟨hfe, hfo⟩ := M.out.far hbe
  have M2 := Hid.mk (M.out.below hb2)
  have T2 := Hid.mk (T1.out.below hb2)
  have hne : bt ≠ be := by have := blk_lt T1.out.b; omega
  have hw1 : (wS x == [109, 97, 120]) = decide ((tkT t i).k = 26) := by rw [hx]; exact wS_k (m := 26) (tk_cl t i) (by omega) (by omega) (by omega) h50
  have hw2 : (wS x == [105, 102]) = decide ((tkT t i).k = 27) := by rw [hx]; exact wS_k (m := 27) (tk_cl t i) (by omega) (by omega) (by omega) h50
  have key : ∀ (v l : Nat) (r4 : List Value) (w4 : World), r4.length = 357 → v = (tkT t i).k - 25 → l = (if (tkT t i).k = 27 then 2 else 1) → Mz g N c a w (i : Int) (o : Int) (.slice sa st.length sc) st ov out w4 → Tb w be #[.int .i64 5, .int .i64 (v : Int), .int .i64 (l : Int)] 89 w4 →
      Code.wp Tryd.prog (.seq (sL (sR (sR (sR (sR xCA))))) (.seq (sL (sR (sR (sR (sR (sR xCA)))))) (.seq (sL (sR (sR (sR (sR (sR (sR xCA))))))) (.seq (sL (sR (sR (sR (sR (sR (sR (sR xCA)))))))) (.seq (sL (sR (sR (sR (sR (sR (sR (sR (sR xCA))))))))) (sR (sR (sR (sR (sR (sR (sR (sR (sR xCA)))))))))))))) (RQ t g N c a w R i) (Fz w v0 v3 ov (.slice sa st.length sc) (.bool true) (.pointer (some ⟨bt, 0, none⟩)) v8 v9 v10 v11 (.pointer (some ⟨be, 0, none⟩)) v13 v14 v15 r4) w4 := fun v l r4 w4 hr4 hv hll M4 B4 => by
    rw [← hv, ← hll] at hst
    refine wp_seq (inc49 hr4 (Hid.mk M4) (by omega) (Hid.mk fun r5 hr5 => ?_))
    have M5 := M4.seto ((o + 1 : Nat) : Int)
    have B5 := B4.setp 2 (.int .i64 ((o + 1 : Nat) : Int))
    refine wp_seq (inc50 hr5 (Hid.mk M5) (by omega) (Hid.mk fun r6 hr6 => ?_))
    have M6 := Hid.mk (M5.seti ((i + 1 : Nat) : Int))
    have B6 := B5.setp 1 (.int .i64 ((i + 1 : Nat) : Int))
    by_cases h5 : (tkT t (i + 1)).k = 5
    · rw [if_pos h5] at hst
      refine wp_seq (par51B hr6 hT hN5 hi1 M6 h5 (Hid.mk fun r7 w7 hr7 hb7 => wp_skip ?_))
      have M7 := Hid.mk (M6.out.below hb7)
      have B7 := B6.below hb7
      have hk51 : (tkT t (i + 1)).k < 50 := by omega
      by_cases h3 : opens st = 64
      · rw [if_pos h3] at hst
        refine wp_seq (opn53A hr7 M7 (by omega) h3 (Hid.mk fun r' hr' => fail54 (m := 0) hr' hT.out hN5 hi1 (by omega) ?_ M7 (Hid.mk fun a' wx h => h)))
        rw [fcode_lt hk51]; exact ends_inr E.out.en hst
      rw [if_neg h3] at hst
      refine wp_seq (opn53B hr7 M7 (by omega) h3 (Hid.mk fun r8 hr8 => wp_skip ?_))
      refine wp_seq (push55 hr8 M7 (by omega) (Hid.mk B7.b) (Hid.mk fun r9 sv9 w9 hr9 M9 => ?_))
      refine inc56 hr9 (Hid.mk M9) (by omega) (Hid.mk fun r10 hr10 => ?_)
      refine RQ.norm ⟨i + 2, o + 1, ⟨5, (v : Int), l⟩ :: st, out, true⟩ hr10 rfl (by show i < i + 2; omega) ⟨M9.seti ((i + 1 + 1 : Nat) : Int), ends_inl E.out.en hst, ?_, hNf.out.next hi1 (by omega) hk51, by simp; omega, by show o + 1 ≤ 2000; omega⟩
      show wf true _
      rw [wf]
      exact Or.inr (Or.inr ⟨by simp, by show l ≤ 2; rw [hll]; split <;> omega, E.out.wf⟩)
    · rw [if_neg h5] at hst
      refine wp_seq (par51A hr6 hT hN5 hi1 M6 h5 (Hid.mk fun r7 w7 hr7 hb7 => ?_))
      exact fail52 (m := 0) hr7 hT.out hN5 hi1 (by omega) (by rw [← flt_eq]; exact ends_inr E.out.en hst) (Hid.mk (M6.out.below hb7)) (Hid.mk fun a' wx h => h)
  by_cases h26 : (tkT t i).k = 26
  · refine wp_seq (max44t hr2 T2 (Hid.mk B2) (by rw [hw1]; simpa using h26) (Hid.mk fun r3 hr3 => ?_))
    have M3 := M2.out.setq (k := 1) B2.n0 B2.n1 B2.le hfe hfo (.int .i64 1)
    have B3 := B2.setq 1 (.int .i64 1)
    refine wp_seq (if46f hr3 (Hid.mk (T2.out.setr hne 1 (.int .i64 1))) (ev := 1) (Hid.mk B3) (by rw [hw2]; simp; omega) (Hid.mk fun r4 hr4 => ?_))
    exact key 1 1 r4 _ hr4 (by omega) (by rw [if_neg (by omega)]) M3 B3
  · refine wp_seq (max44f hr2 T2 (Hid.mk B2) (by rw [hw1]; simpa using h26) (Hid.mk fun r3 hr3 => ?_))
    by_cases h27 : (tkT t i).k = 27
    · refine wp_seq (if46t hr3 T2 (ev := 0) (Hid.mk B2) (by rw [hw2]; simpa using h27) (Hid.mk fun r4 hr4 => ?_))
      have M3 := M2.out.setq (k := 1) B2.n0 B2.n1 B2.le hfe hfo (.int .i64 2)
      have B3 := B2.setq 1 (.int .i64 2)
      have M4 := M3.setq (k := 2) B2.n0 B2.n1 B2.le hfe hfo (.int .i64 2)
      have B4 := B3.setq 2 (.int .i64 2)
      exact key 2 2 r4 _ hr4 (by omega) (by rw [if_pos h27]) M4 B4
    · refine wp_seq (if46f hr3 T2 (ev := 0) (Hid.mk B2) (by rw [hw2]; simpa using h27) (Hid.mk fun r4 hr4 => ?_))
      exact key 0 1 r4 _ hr4 (by omega) (by rw [if_neg h27]) M2.out B2
end Go.Proofs.YtfoigigbggickaaDoor.Par
