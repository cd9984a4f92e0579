import Derived.Test.YtfoigigbggickaaDoorPq26
namespace Go.Proofs.YtfoigigbggickaaDoor.Par
open Go Go.RowKit Go.Proofs.YtfoigigbggickaaDoor.Mem Go.Proofs.YtfoigigbggickaaDoor.Syn Go.Proofs.YtfoigigbggickaaDoor.Parse
set_option linter.unusedVariables false
set_option linter.unusedSimpArgs false
attribute [local go_sem ↓] Go.wp_at_zero Go.wp_at_succ

theorem ez_start (t : List UInt8) (g N c i o a : Nat) (R : Rs (List Po × Nat × Nat)) (w : World) (hi : i < N) (ho : o ≤ 2000) (hE : Ends (tkT t) ⟨i, o, [], [], true⟩ R) : Ez t g N c a w R ⟨i, o, [], [], true⟩ (.slice (some ⟨w.heap.size + 1 + 1 + 1, 0, none⟩) 0 0) (.slice (some ⟨w.heap.size + 1 + 1, 0, none⟩) 0 0) ((((w.alloc (.cells #[.slice (some ⟨g, 0, none⟩) N c, .int .i64 ((i : Int)), .int .i64 ((o : Int)), .int .i64 0, .int .i64 (a : Int)] 38)).alloc (.cells #[.slice none 0 0, .int .i64 0, .int .i64 0, .int .i64 0, .int .i64 0] 38)).alloc (.cells #[] 82)).alloc (.cells #[] 89)) := by
  refine ⟨⟨blk_alloc (blk_alloc (blk_alloc (blk_new _ _) _) _) _, blk_alloc (blk_alloc (blk_new1 _ _ _) _) _, ?_, ?_, below_alloc' (below_alloc' (below_alloc' (below_alloc' (Below.refl _ _) _) _) _) _⟩, hE, trivial, hi, by simp, ho⟩
  · have := World.ownsRow_made (base := w.heap.size) (e := 89) (size := 3) (((w.alloc (.cells #[.slice (some ⟨g, 0, none⟩) N c, .int .i64 ((i : Int)), .int .i64 ((o : Int)), .int .i64 0, .int .i64 (a : Int)] 38)).alloc (.cells #[.slice none 0 0, .int .i64 0, .int .i64 0, .int .i64 0, .int .i64 0] 38)).alloc (.cells #[] 82)) #[] 0 (by simp; omega) (by unfold maxLen; omega) (by simp)
    have hz : (((w.alloc (.cells #[.slice (some ⟨g, 0, none⟩) N c, .int .i64 ((i : Int)), .int .i64 ((o : Int)), .int .i64 0, .int .i64 (a : Int)] 38)).alloc (.cells #[.slice none 0 0, .int .i64 0, .int .i64 0, .int .i64 0, .int .i64 0] 38)).alloc (.cells #[] 82)).heap.size = w.heap.size + 1 + 1 + 1 := by simp
    rw [hz] at this
    exact this
  · have := World.ownsRow_made (base := w.heap.size) (e := 82) (size := 3) ((w.alloc (.cells #[.slice (some ⟨g, 0, none⟩) N c, .int .i64 ((i : Int)), .int .i64 ((o : Int)), .int .i64 0, .int .i64 (a : Int)] 38)).alloc (.cells #[.slice none 0 0, .int .i64 0, .int .i64 0, .int .i64 0, .int .i64 0] 38)) #[] 0 (by simp; omega) (by unfold maxLen; omega) (by simp)
    have hz : ((w.alloc (.cells #[.slice (some ⟨g, 0, none⟩) N c, .int .i64 ((i : Int)), .int .i64 ((o : Int)), .int .i64 0, .int .i64 (a : Int)] 38)).alloc (.cells #[.slice none 0 0, .int .i64 0, .int .i64 0, .int .i64 0, .int .i64 0] 38)).heap.size = w.heap.size + 1 + 1 := by simp
    rw [hz] at this
    refine OwnO.below (L := []) ?_ (below_alloc' (Below.refl _ _) _)
    exact this

def sL : Code → Code
  | .seq a _ => a
  | c => c
def sR : Code → Code
  | .seq _ b => b
  | c => c
def cT : Code → Code
  | .cond _ a _ => a
  | c => c
def cF : Code → Code
  | .cond _ _ b => b
  | c => c
def bk : Code → Code
  | .block _ a => a
  | c => c
def lpo : Code → Code
  | .loop a => a
  | c => c
/-- A list of a known length, element by element. -/
def elim : Nat → (List Value → Prop) → Prop
  | 0, m => m []
  | n + 1, m => ∀ u, elim n (fun l => m (u :: l))
theorem elim_out : ∀ (n : Nat) (m : List Value → Prop), elim n m → ∀ l : List Value, l.length = n → m l
  | 0, m, h, [], _ => h
  | n + 1, m, h, u :: l, e => elim_out n _ (h u) l (by simpa using e)
noncomputable def x0 : Code := Tryd.f27.body.getD .skip
noncomputable def xL : Code := lpo (bk (sL (sR (sR (sR (sR x0))))))
noncomputable def xX : Code := bk (sR xL)
noncomputable def xW : Code := cT (sR (sR (sR xX)))
noncomputable def xN : Code := cF (sR (sR (sR xX)))
noncomputable def xLF : Code := cT (sR (sR xW))
noncomputable def xTG : Code := cT (sR (sL (sR (sR (sR xLF)))))
noncomputable def xNL : Code := cF (sR (sR xW))
noncomputable def xU : Code := cT (sR xNL)
noncomputable def xPO : Code := cF (sR xNL)
noncomputable def xP : Code := cT (sR xPO)
noncomputable def xCL : Code := cF (sR xPO)
noncomputable def xCA : Code := cT (sR xCL)
noncomputable def xBI : Code := cT (sR (sR (sR (sR xN))))
noncomputable def xNB : Code := cF (sR (sR (sR (sR xN))))
noncomputable def xNC : Code := cF (sR xNB)
noncomputable def xCO : Code := cT (sR xNC)
noncomputable def xPC : Code := cF (sR xNC)
noncomputable def xCS : Code := cT (sR xPC)
theorem x0_eq : x0 = .seq (sL x0) (.seq (sL (sR x0)) (.seq (sL (sR (sR x0))) (.seq (sL (sR (sR (sR x0)))) (.seq (.block 0 (.loop xL)) (sR (sR (sR (sR (sR x0))))))))) := rfl
theorem xL_eq : xL = .seq (sL xL) (.block 1 xX) := rfl
theorem xX_eq : xX = .seq (sL xX) (.seq (sL (sR xX)) (sR (sR xX))) := rfl
theorem xLF_eq : xLF = .seq (sL xLF) (.seq (sL (sR xLF)) (.seq (sL (sR (sR xLF))) (.seq (sL (sR (sR (sR xLF)))) (.seq (sL (sR (sR (sR (sR xLF))))) (.seq (sL (sR (sR (sR (sR (sR xLF)))))) (sR (sR (sR (sR (sR (sR xLF)))))))))))  := rfl
theorem xTG_eq : xTG = .seq (sL xTG) (.seq (sL (sR xTG)) (.seq (sL (sR (sR xTG))) (sR (sR (sR xTG))))) := rfl
theorem xU_eq : xU = .seq (sL xU) (.seq (sL (sR xU)) (.seq (sL (sR (sR xU))) (.seq (sL (sR (sR (sR xU)))) (.seq (sL (sR (sR (sR (sR xU))))) (.seq (sL (sR (sR (sR (sR (sR xU)))))) (sR (sR (sR (sR (sR (sR xU)))))))))))  := rfl
theorem xP_eq : xP = .seq (sL xP) (.seq (sL (sR xP)) (sR (sR xP))) := rfl
theorem xCA_eq : xCA = .seq (sL xCA) (.seq (sL (sR xCA)) (.seq (sL (sR (sR xCA))) (.seq (sL (sR (sR (sR xCA)))) (.seq (sL (sR (sR (sR (sR xCA))))) (.seq (sL (sR (sR (sR (sR (sR xCA)))))) (.seq (sL (sR (sR (sR (sR (sR (sR xCA))))))) (.seq (sL (sR (sR (sR (sR (sR (sR (sR xCA)))))))) (.seq (sL (sR (sR (sR (sR (sR (sR (sR (sR xCA))))))))) (sR (sR (sR (sR (sR (sR (sR (sR (sR xCA))))))))))))))))) := rfl
theorem xN_eq : xN = .seq (sL xN) (.seq (sL (sR xN)) (.seq (sL (sR (sR xN))) (sR (sR (sR xN))))) := rfl
theorem xBI_eq : xBI = .seq (sL xBI) (.seq (sL (sR xBI)) (.seq (sL (sR (sR xBI))) (.seq (sL (sR (sR (sR xBI)))) (.seq (sL (sR (sR (sR (sR xBI))))) (.seq (sL (sR (sR (sR (sR (sR xBI)))))) (.seq (sL (sR (sR (sR (sR (sR (sR xBI))))))) (sR (sR (sR (sR (sR (sR (sR xBI))))))))))))) := rfl
theorem xCO_eq : xCO = .seq (sL xCO) (.seq (sL (sR xCO)) (.seq (sL (sR (sR xCO))) (sR (sR (sR xCO))))) := rfl
theorem xCS_eq : xCS = .seq (sL xCS) (.seq (sL (sR xCS)) (.seq (sL (sR (sR xCS))) (.seq (sL (sR (sR (sR xCS)))) (sR (sR (sR (sR xCS))))))) := rfl
/-- The frame of l2Expr: the variables, and the temporaries behind them. -/
def Fz (w : World) (v0 v3 ov sv wt v7 v8 v9 v10 v11 v12 v13 v14 v15 : Value) (r : List Value) : Act :=
  { tmps := (v0 :: .pointer (some ⟨w.heap.size, 0, none⟩) :: .pointer (some ⟨w.heap.size + 1, 0, none⟩) :: v3 :: ov :: sv :: wt :: v7 :: v8 :: v9 :: v10 :: v11 :: v12 :: v13 :: v14 :: v15 :: r).toArray, defers := [] }
/-- What a round hands on, or answers. -/
def RQ (t : List UInt8) (g N c a : Nat) (w : World) (R : Rs (List Po × Nat × Nat)) (m : Nat) : Exit → Act → World → Prop
  | .normal, a', wx => ∃ (v0 v3 ov sv wt v7 v8 v9 v10 v11 v12 v13 v14 v15 : Value) (r : List Value) (S : MS), a' = Fz w v0 v3 ov sv wt v7 v8 v9 v10 v11 v12 v13 v14 v15 r ∧ r.length = 357 ∧ wt = .bool S.want ∧ m < S.i ∧ Ez t g N c a w R S sv ov wx
  | .ret, a', wx => bodyPost Tryd.prog Tryd.f27 (fun e w' => ExO t g N c w R e w') .ret a' wx
  | _, _, _ => False
theorem RQ.norm {t : List UInt8} {g N c a : Nat} {w : World} {R : Rs (List Po × Nat × Nat)} {m : Nat} {v0 v3 ov sv wt v7 v8 v9 v10 v11 v12 v13 v14 v15 : Value} {r : List Value} {wx : World} (S : MS) (hr : r.length = 357) (hw : wt = .bool S.want) (hm : m < S.i) (h : Ez t g N c a w R S sv ov wx) : RQ t g N c a w R m .normal (Fz w v0 v3 ov sv wt v7 v8 v9 v10 v11 v12 v13 v14 v15 r) wx :=
  ⟨v0, v3, ov, sv, wt, v7, v8, v9, v10, v11, v12, v13, v14, v15, r, S, rfl, hr, hw, hm, h⟩
theorem RQ.ret {t : List UInt8} {g N c a : Nat} {w : World} {R : Rs (List Po × Nat × Nat)} {m : Nat} {a' : Act} {wx : World} (h : bodyPost Tryd.prog Tryd.f27 (fun e w' => ExO t g N c w R e w') .ret a' wx) : RQ t g N c a w R m .ret a' wx := h
/-- The answer's box may be filled: rows and what lay below stay. -/
structure Kr (B : Nat) (w : World) (q : Nat) (ov : Value) (L : List Po) (wx : World) : Prop where
  o : OwnO B wx ov L
  b : ∃ C, wx.heap[q]? = some (.cells C 38)
  bel : Below w.heap.size w wx
theorem Kr.set {B : Nat} {w : World} {q : Nat} {ov : Value} {L : List Po} {wx : World} (h : Kr B w q ov L wx) (hq : w.heap.size ≤ q) (k : Nat) (u : Value) : Kr B w q ov L (wx.setCell ⟨q, k, none⟩ u) := by
  obtain ⟨C, hC⟩ := h.b
  exact ⟨row_set'' h.o hC (by decide), ⟨_, blk_set hC k u⟩, h.bel.setCell (p := ⟨q, k, none⟩) hq _⟩
theorem OwnE.setl {B g2 n c : Nat} {wr : World} {e : Ent} {rr : List Ent} (h : OwnE B wr (.slice (some ⟨g2, 0, none⟩) n c) (e :: rr)) (l : Nat) : (∃ C, wr.heap[g2]? = some (.cells C 89)) ∧ B ≤ g2 ∧ OwnE B (wr.setCell ⟨g2, rr.length * 3 + 2, none⟩ (.int .i64 (l : Int))) (.slice (some ⟨g2, 0, none⟩) n c) (⟨e.k, e.v, l⟩ :: rr) := by
  rcases h.2 with ⟨h1, h2⟩ | ⟨g, cap, cur, h1, h2, h3, h4, h5, h6, h7⟩
  · cases h1
  · injection h1 with e1 e2 e3
    injection e1 with e1
    injection e1 with e1 _ _
    subst e1
    refine ⟨⟨_, h3⟩, h2, stC_len _, Or.inr ⟨g2, cap, _, by rw [e2, e3]; rfl, h2, blk_set h3 _ _, h4, h5, by simpa using h6, ?_⟩⟩
    rw [Array.toList_setIfInBounds, List.take_set, show (⟨e.k, e.v, l⟩ :: rr : List Ent).length = (e :: rr).length from rfl, h7, stC_cons, stC_cons, List.set_append_right _ _ (by rw [stC_len]; omega), stC_len, show rr.length * 3 + 2 - rr.length * 3 = 2 by omega]
    rfl
theorem Mz.setl {g N c a : Nat} {w wr : World} {iI oI : Int} {ov : Value} {out : List Po} {g2 n sc : Nat} {e : Ent} {rr : List Ent} (h : Mz g N c a w iI oI (.slice (some ⟨g2, 0, none⟩) n sc) (e :: rr) ov out wr) (l : Nat) : Mz g N c a w iI oI (.slice (some ⟨g2, 0, none⟩) n sc) (⟨e.k, e.v, l⟩ :: rr) ov out (wr.setCell ⟨g2, rr.length * 3 + 2, none⟩ (.int .i64 (l : Int))) := by
  obtain ⟨⟨C, hC⟩, hB, he⟩ := h.e.setl l
  have hne : ∀ {q : Nat} {C' : Array Value}, wr.heap[q]? = some (.cells C' 38) → q ≠ g2 := fun {q C'} hq e' => by
    subst e'
    rw [hC] at hq
    injection hq with hq
    injection hq with _ hq _
    exact absurd hq (by decide)
  exact ⟨blk_set_other h.b (hne h.b) _, blk_set_other h.r (hne h.r) _, he, row_set'' h.o hC (by decide), h.bel.setCell (p := ⟨g2, _, none⟩) hB _⟩
theorem Mz.tail {g N c a : Nat} {w wr : World} {iI oI : Int} {ov : Value} {out : List Po} {sa : Option Addr} {n sc : Nat} {e : Ent} {rr : List Ent} (h : Mz g N c a w iI oI (.slice sa n sc) (e :: rr) ov out wr) : Mz g N c a w iI oI (.slice sa rr.length sc) rr ov out wr := ⟨h.b, h.r, h.e.tail, h.o, h.bel⟩
/-- A box of the round: its place is none of the frame's own. -/
structure Tb (w : World) (bt : Nat) (C : Array Value) (ty : TypeId) (wx : World) : Prop where
  b : wx.heap[bt]? = some (.cells C ty)
  n0 : bt ≠ w.heap.size
  n1 : bt ≠ w.heap.size + 1
  le : w.heap.size ≤ bt
theorem Tb.below {w : World} {bt : Nat} {C : Array Value} {ty : TypeId} {wx wy : World} (h : Tb w bt C ty wx) (hb : Below wx.heap.size wx wy) : Tb w bt C ty wy := ⟨blk_below h.b hb, h.n0, h.n1, h.le⟩
theorem Tb.setp {w : World} {bt : Nat} {C : Array Value} {ty : TypeId} {wx : World} (h : Tb w bt C ty wx) (k : Nat) (u : Value) : Tb w bt C ty (wx.setCell ⟨w.heap.size, k, none⟩ u) := ⟨blk_set_other h.b h.n0 _, h.n0, h.n1, h.le⟩
theorem Mz.tb {g N c a : Nat} {w wr : World} {iI oI : Int} {sv ov : Value} {st : List Ent} {out : List Po} (h : Mz g N c a w iI oI sv st ov out wr) (C : Array Value) (ty : TypeId) : Tb w wr.heap.size C ty (wr.alloc (.cells C ty)) := ⟨blk_new _ _, by have := blk_lt h.b; omega, by have := blk_lt h.r; omega, h.bel.size⟩
theorem Mz.kr {g N c a : Nat} {w wr : World} {iI oI : Int} {sv ov : Value} {st : List Ent} {out : List Po} (h : Mz g N c a w iI oI sv st ov out wr) : Kr w.heap.size w (w.heap.size + 1) ov out wr := ⟨h.o, ⟨_, h.r⟩, h.bel⟩
end Go.Proofs.YtfoigigbggickaaDoor.Par
namespace Go.Proofs.YtfoigigbggickaaDoor.Par
open Go Go.RowKit Go.Proofs.YtfoigigbggickaaDoor.Mem Go.Proofs.YtfoigigbggickaaDoor.Syn Go.Proofs.YtfoigigbggickaaDoor.Parse
set_option linter.unusedVariables false
set_option linter.unusedSimpArgs false

variable {T : Nat → Tk} {i o : Nat} {st : List Ent} {out : List Po}
theorem stp_fin (h : 50 ≤ (T i).k) (b : Bool) : stp T ⟨i, o, st, out, b⟩ = .inr (flt T 4 i) := by unfold stp; rw [if_pos h]
theorem leaf_k {x : Tk} {p : Po} (h : leafR x = (true, p)) : x.k ≠ 0 ∧ ((p.k = 4 ∧ x.k = 48 ∧ p.n = []) ∨ (p.k = 5 ∧ x.k = 49 ∧ p.n = []) ∨ (p.k ≠ 4 ∧ p.k ≠ 5 ∧ x.k ≠ 48 ∧ x.k ≠ 49 ∧ wop x = some p)) := by
  unfold leafR at h
  split at h
  · rename_i e; injection h with _ h; subst h; exact ⟨by omega, Or.inl ⟨rfl, e, rfl⟩⟩
  split at h
  · rename_i e; injection h with _ h; subst h; exact ⟨by omega, Or.inr (Or.inl ⟨rfl, e, rfl⟩)⟩
  rename_i e1 e2
  cases hw : wop x with
  | none => rw [hw] at h; injection h with h; cases h
  | some q =>
    rw [hw] at h
    injection h with _ h
    subst h
    have hw' := hw
    unfold wop at hw
    split at hw
    · rename_i e; injection hw with hw; subst hw; exact ⟨by omega, Or.inr (Or.inr ⟨by simp, by simp, e1, e2, rfl⟩)⟩
    split at hw
    · rename_i e; injection hw with hw; subst hw; exact ⟨by omega, Or.inr (Or.inr ⟨by simp, by simp, e1, e2, rfl⟩)⟩
    split at hw
    · rename_i e; injection hw with hw; subst hw; exact ⟨by omega, Or.inr (Or.inr ⟨by simp, by simp, e1, e2, rfl⟩)⟩
    split at hw
    · rename_i e; injection hw with hw; subst hw; exact ⟨by omega, Or.inr (Or.inr ⟨by simp, by simp, e1, e2, rfl⟩)⟩
    · cases hw
theorem leaf_no {x : Tk} (h : (leafR x).1 = false) : x.k ≠ 48 ∧ x.k ≠ 49 ∧ wop x = none := by
  unfold leafR at h
  split at h; · cases h
  split at h; · cases h
  rename_i e1 e2
  refine ⟨e1, e2, ?_⟩
  cases hw : wop x with
  | none => rfl
  | some q => rw [hw] at h; cases h
/-- The step where an operand is wanted and a leaf stands. -/
theorem stp_leaf {p : Po} (h50 : (T i).k < 50) (hl : leafR (T i) = (true, p)) : stp T ⟨i, o, st, out, true⟩ = if o = 2000 then .inr (.bad 6 (T i).at') else if p.k = 4 ∨ p.k = 5 then (if tagT (T (i + 1)) = true then .inl ⟨i + 2, o + 1, (dr 6 st (out ++ [⟨p.k, (((T (i + 1)).n.getD 0 0).toNat : Int) - 97, []⟩])).1, (dr 6 st (out ++ [⟨p.k, (((T (i + 1)).n.getD 0 0).toNat : Int) - 97, []⟩])).2, false⟩ else .inr (flt T 4 (i + 1))) else .inl ⟨i + 1, o + 1, (dr 6 st (out ++ [p])).1, (dr 6 st (out ++ [p])).2, false⟩ := by
  unfold stp
  rw [if_neg (show ¬ 50 ≤ (T i).k by omega), if_pos rfl]
  rcases (leaf_k hl).2 with ⟨hp, hk, -⟩ | ⟨hp, hk, -⟩ | ⟨h4, h5, h8, h9, hw⟩
  · simp only [hk, hp]; rfl
  · simp only [hk, hp]; rfl
  · rw [if_neg (show ¬ ((T i).k = 48 ∨ (T i).k = 49) by omega), if_neg (show ¬ (p.k = 4 ∨ p.k = 5) by omega)]
    simp only [hw]
/-- .. and no leaf. -/
theorem stp_nl (h50 : (T i).k < 50) (hl : (leafR (T i)).1 = false) : stp T ⟨i, o, st, out, true⟩ =
    if (T i).k = 10 ∨ (T i).k = 47 then
      if o = 2000 then .inr (.bad 6 (T i).at') else if opens st = 64 then .inr (.bad 5 (T i).at') else .inl ⟨i + 1, o + 1, ⟨if (T i).k = 10 then 1 else 2, 0, 0⟩ :: st, out, true⟩
    else if (T i).k = 5 then if opens st = 64 then .inr (.bad 5 (T i).at') else .inl ⟨i + 1, o, ⟨4, 0, 0⟩ :: st, out, true⟩
    else if 25 ≤ (T i).k ∧ (T i).k ≤ 27 then
      if o = 2000 then .inr (.bad 6 (T i).at')
      else if (T (i + 1)).k = 5 then if opens st = 64 then .inr (.bad 5 (T (i + 1)).at') else .inl ⟨i + 2, o + 1, ⟨5, (((T i).k - 25 : Nat) : Int), if (T i).k = 27 then 2 else 1⟩ :: st, out, true⟩
      else .inr (flt T 4 (i + 1))
    else .inr (.bad 4 (T i).at') := by
  obtain ⟨h1, h2, h3⟩ := leaf_no hl
  unfold stp
  rw [if_neg (show ¬ 50 ≤ (T i).k by omega), if_pos rfl, if_neg (show ¬ ((T i).k = 48 ∨ (T i).k = 49) by omega)]
  simp only [h3]
/-- No operand wanted. -/
theorem stp_n (h50 : (T i).k < 50) : stp T ⟨i, o, st, out, false⟩ =
    if isB (T i).k = true then
      if bstr ((T i).k - 8 : Int) = 3 ∧ cmpTop (dr 4 st out).1 = true then .inr (.bad 4 (T i).at') else if o = 2000 then .inr (.bad 6 (T i).at')
      else .inl ⟨i + 1, o + 1, ⟨3, ((T i).k : Int) - 8, 0⟩ :: (dr (bstr ((T i).k - 8 : Int)).toNat st out).1, (dr (bstr ((T i).k - 8 : Int)).toNat st out).2, true⟩
    else match inn st with
    | none => .inr (.ok ((dr 1 st out).2, i, o))
    | some e =>
      if (T i).k = 4 ∧ 0 < e.l then .inl ⟨i + 1, o, decL (dr 1 st out).1, (dr 1 st out).2, true⟩
      else if (T i).k = 6 ∧ e.l = 0 then .inl ⟨i + 1, o, (dr 6 (dr 1 st out).1.tail ((dr 1 st out).2 ++ fin e)).1, (dr 6 (dr 1 st out).1.tail ((dr 1 st out).2 ++ fin e)).2, false⟩
      else .inr (.bad 4 (T i).at') := by
  unfold stp
  rw [if_neg (show ¬ 50 ≤ (T i).k by omega), if_neg (by simp)]
  cases inn st <;> rfl
variable {t : List UInt8} {g N c a : Nat} {w wr wx : World} {R : Rs (List Po × Nat × Nat)} {S : MS} {sv ov : Value}
theorem Mz.setq {q k : Nat} {iI oI : Int} (h : Mz g N c a w iI oI sv st ov out wr) (h1 : q ≠ w.heap.size) (h2 : q ≠ w.heap.size + 1) (h3 : w.heap.size ≤ q) (he : sv.ownBlock ≠ some q) (ho : ov.ownBlock ≠ some q) (u : Value) : Mz g N c a w iI oI sv st ov out (wr.setCell ⟨q, k, none⟩ u) :=
  ⟨blk_set_other h.b h1.symm _, blk_set_other h.r h2.symm _, ownsRow_setCell_other h.e he u, ownsRow_setCell_other h.o ho u, h.bel.setCell (p := ⟨q, k, none⟩) h3 _⟩
theorem Mz.far {iI oI : Int} {q : Nat} (h : Mz g N c a w iI oI sv st ov out wr) (hq : wr.heap.size ≤ q) : sv.ownBlock ≠ some q ∧ ov.ownBlock ≠ some q :=
  ⟨fun e => by have := (h.e.lt q e).2; omega, fun e => by have := (h.o.lt q e).2; omega⟩
theorem Tb.setq {C : Array Value} {ty : TypeId} {bt : Nat} (h : Tb w bt C ty wr) (k : Nat) (u : Value) : Tb w bt (C.setIfInBounds k u) ty (wr.setCell ⟨bt, k, none⟩ u) := ⟨blk_set h.b k u, h.n0, h.n1, h.le⟩
theorem Tb.setr {C : Array Value} {ty : TypeId} {bt q : Nat} (h : Tb w bt C ty wr) (hne : bt ≠ q) (k : Nat) (u : Value) : Tb w bt C ty (wr.setCell ⟨q, k, none⟩ u) := ⟨blk_set_other h.b hne _, h.n0, h.n1, h.le⟩
theorem Ez.below (h : Ez t g N c a w R S sv ov wr) (hb : Below wr.heap.size wr wx) : Ez t g N c a w R S sv ov wx := ⟨h.m.below hb, h.en, h.wf, h.hi, h.ln, h.o2⟩
theorem Mz.oshape {iI oI : Int} (h : Mz g N c a w iI oI sv st ov out wr) : ∃ oa oc, ov = .slice oa out.length oc := by obtain ⟨a, c, e, -⟩ := row_shape h.o; exact ⟨_, _, e⟩
theorem Mz.eshape {iI oI : Int} (h : Mz g N c a w iI oI sv st ov out wr) : ∃ sa sc, sv = .slice sa st.length sc := h.e.shape
theorem Ez.bad6 {cc : Int} (h : Ez t g N c a w R S sv ov wr) (h50 : (tkT t S.i).k < 50) (hs : stp (tkT t) S = .inr (.bad cc (tkT t S.i).at')) : R = .bad (fcode cc (tkT t S.i)) (tkT t S.i).at' := by
  rw [fcode_lt h50]; exact ends_inr h.en hs
end Go.Proofs.YtfoigigbggickaaDoor.Par
