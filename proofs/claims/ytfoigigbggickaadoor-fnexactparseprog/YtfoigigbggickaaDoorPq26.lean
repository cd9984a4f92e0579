import Derived.Test.YtfoigigbggickaaDoorPq25
import Derived.Test.YtfoigigbggickaaDoorPq15
namespace Go.Proofs.YtfoigigbggickaaDoor.Par
open Go Go.RowKit Go.Proofs.YtfoigigbggickaaDoor.Mem Go.Proofs.YtfoigigbggickaaDoor.Syn Go.Proofs.YtfoigigbggickaaDoor.Parse
set_option linter.unusedVariables false
set_option linter.unusedSimpArgs false
attribute [local go_sem ↓] Go.wp_at_zero Go.wp_at_succ

theorem dr_sum (s : Nat) : ∀ (st : List Ent) (out : List Po), (dr s st out).1.length + (dr s st out).2.length = st.length + out.length
  | [], out => rfl
  | e :: r, out => by
    rw [dr]
    split
    · rw [dr_sum s r]; simp; omega
    · rfl
/-- What the draining keeps. -/
structure Dz (s B : Nat) (st : List Ent) (out : List Po) (ov0 : Value) (w : World) (a : Option Addr) (c : Nat) (st1 : List Ent) (out1 : List Po) (ov : Value) (wr : World) : Prop where
  eq : dr s st1 out1 = dr s st out
  e : OwnE B wr (.slice a st1.length c) st1
  o : OwnO B wr ov out1
  g : Gx ov0 w ov wr
  l : st1.length + out1.length ≤ 100000
/-- What l2Drain promises. -/
def DrO (s B : Nat) (st : List Ent) (out : List Po) (ov0 : Value) (w : World) (a : Option Addr) (c : Nat) (r : Ending) (w' : World) : Prop :=
  ∃ ov', r = .returned (.tuple #[.slice a (dr s st out).1.length c, ov']) ∧ OwnE B w' (.slice a (dr s st out).1.length c) (dr s st out).1 ∧ OwnO B w' ov' (dr s st out).2 ∧ Gx ov0 w ov' w'
theorem Dz.fin {s B : Nat} {st : List Ent} {out : List Po} {ov0 : Value} {w : World} {a : Option Addr} {c : Nat} {st1 : List Ent} {out1 : List Po} {ov : Value} {wr w' : World} (h : Dz s B st out ov0 w a c st1 out1 ov wr) (hd : dr s st1 out1 = (st1, out1)) (hb : Below wr.heap.size wr w') : DrO s B st out ov0 w a c (.returned (.tuple #[.slice a st1.length c, ov])) w' := by
  have e := h.eq.symm.trans hd
  unfold DrO
  rw [e]
  exact ⟨ov, rfl, h.e.below hb, h.o.below hb, h.g.post hb⟩
theorem Dz.step {s B : Nat} {st : List Ent} {out : List Po} {ov0 : Value} {w : World} {a : Option Addr} {c : Nat} {e : Ent} {r : List Ent} {out1 : List Po} {ov v' : Value} {wr X w' : World} (h : Dz s B st out ov0 w a c (e :: r) out1 ov wr) (hp : pops s e = true) (hb : Below wr.heap.size wr X) (row : w'.ownsRow B 82 3 v' (out1.length + 1) (opCs out1 ++ (eop e).cells)) (g : Gx ov X v' w') : Dz s B st out ov0 w a c r (out1 ++ [eop e]) v' w' := by
  refine ⟨?_, ?_, OwnO.snoc row, (h.g.post hb).trans g, ?_⟩
  · rw [← h.eq]; conv => rhs; rw [dr, if_pos hp]
  · exact (h.e.tail.below hb).gx (h.o.below hb) g
  · have := h.l; simp at this ⊢; omega
theorem dr_stop {s : Nat} {e : Ent} {r : List Ent} {out : List Po} (h : pops s e = false) : dr s (e :: r) out = (e :: r, out) := by rw [dr, h]; rfl

set_option maxHeartbeats 6400000 in
set_option maxRecDepth 1000000 in
theorem drainS (s : Nat) (z : Int) (hz : z = (s : Int)) (hs6 : s ≤ 6) (B : Nat) (a : Option Addr) (n c : Nat) (st : List Ent) (out : List Po) (ov : Value) (w : World) (hn : n = st.length) (hE : OwnE B w (.slice a n c) st) (hO : OwnO B w ov out) (hB : B ≤ w.heap.size) (hl : st.length + out.length ≤ 100000) :
    Calls Tryd.prog 43 #[.slice a n c, ov, .int .i64 z] w fun r w' => DrO s B st out ov w a c r w' := by
  obtain ⟨i0, hi, hz0, hz1, hz2⟩ := info_parts infoO
  obtain ⟨oa, oc, rfl⟩ : ∃ oa oc, ov = .slice oa out.length oc := by obtain ⟨a, c, e, -⟩ := row_shape hO; exact ⟨_, _, e⟩
  subst hn
  have D0 : Hid (Dz s B st out (.slice oa out.length oc) w a c st out (.slice oa out.length oc) w) := ⟨rfl, hE, hO, Gx.refl _ _, hl⟩
  clear hE hO hl
  go_enter Tryd.func43, Tryd.ntmps43
  go_wp2_with fail
  go_loopg [0, 1] st.length (fun gk sv ovv wr => ∃ (st1 : List Ent) (out1 : List Po), gk = st1.length ∧ sv = .slice a st1.length c ∧ Hid (Dz s B st out (.slice oa out.length oc) w a c st1 out1 ovv wr) ∧ ∃ a' n' c', ovv = .slice a' n' c')
  case atStart => exact ⟨st, out, rfl, rfl, D0, _, _, _, rfl⟩
  case round =>
    obtain ⟨st1, out1, rfl, rfl, hd, oa', on', oc', rfl⟩ := hrel
    have hBr : B ≤ wr.heap.size := Nat.le_trans hB hd.out.g.1.size
    cases st1 with
    | nil =>
      have HF := Hid.mk (hd.out.fin (w' := wr) rfl (Below.refl _ _))
      clear hd
      go_wp2
      go_ret2
      exact HF.out
    | cons e r =>
      obtain ⟨m, hm⟩ : ∃ m, m = r.length := ⟨_, rfl⟩
      have hlen : m + 1 + out1.length ≤ 100000 := by have := hd.out.l; simp at this; omega
      obtain ⟨g, rfl, -, hc, hBg, hgl⟩ := hd.out.e.blk (by simp)
      obtain ⟨y0, y1, y2⟩ := OwnE.at (pre := []) hd.out.e
      rw [← hm] at y0 y1 y2
      have HM := Hid.mk hm
      have hc1 : m + 1 ≤ c := by simp at hc; omega
      obtain ⟨M, hM⟩ : ∃ M, M = m + 1 := ⟨_, rfl⟩
      rw [show (e :: r).length = M by simp [hm, hM]]
      clear hc hm
      have k0 : (0 : Int) < (M : Int) := by omega
      have k1 : (0 : Int) ≤ (m : Int) := by omega
      have k2 : (m : Int) < (M : Int) := by omega
      have k3 : (m : Int) ≤ (M : Int) := by omega
      have e9 : IntKind.i64.wrap ((M : Int) - 1) = (m : Int) := by rw [IntKind.wrap_i64]; omega
      have HMM := Hid.mk hM
      clear hM
      go_upto_region 3 with fail
      obtain ⟨W1, hW1⟩ : ∃ W, W = wr.alloc (.cells #[.int .i64 (e.k : Int), .int .i64 e.v, .int .i64 (e.l : Int)] 89) := ⟨_, rfl⟩
      rw [← hW1]
      obtain ⟨b, hb⟩ : ∃ b, b = wr.heap.size := ⟨_, rfl⟩
      rw [← hb]
      have A1 : Hid (Below wr.heap.size wr W1) := by rw [hW1]; exact below_alloc' (Below.refl _ _) _
      have B1 : Hid (W1.heap[b]? = some (.cells #[.int .i64 (e.k : Int), .int .i64 e.v, .int .i64 (e.l : Int)] 89)) := by rw [hW1, hb]; exact blk_new _ _
      clear hW1 hb y0 y1 y2 hgl
      have b0 := (blk_cell B1.out 0).trans rfl
      have b1 := (blk_cell B1.out 1).trans rfl
      have b2 := (blk_cell B1.out 2).trans rfl
      by_cases h6 : s = 6
      · have q6 : (z == 6) = true := by simp; omega
        have q7 : decide (z < 6) = false := by simp; omega
        by_cases h1 : e.k = 1
        · have p1 : ((e.k : Int) != 1) = false := by simp; omega
          have hp : pops s e = true := by unfold pops; rw [if_pos h6, h1]; rfl
          clear h1 h6 hz hs6
          have CE := Hid.mk (entOpS e W1)
          unfold opA at CE
          have hcm : ¬ c = 0 := by omega
          go_upto_region 7 with fail
          go_wp2_with (first | (go_at_call 48; go_must (refine CE.out.mono ?_; rintro e' w2 ⟨rfl, hb2⟩; have A2 := Hid.mk (below_then A1.out hb2); have A3 : Hid (Below wr.heap.size wr (w2.alloc (.cells (eop e).cells.toArray 82))) := below_alloc' A2.out _; have O3 := Hid.mk (hd.out.o.below A3.out); have hs2 : B ≤ w2.heap.size := Nat.le_trans hBr A2.out.size; clear hb2)) | (at_builtin; go_must (refine wpList_append_own_at _ rfl _ _ 43 rfl B 82 i0 (.agg #[.int .i64 0, .int .i64 0, .string ⟨#[]⟩]) 3 32 Tryd.underlying43 hi hz0 hz1 hz2 rfl (by decide) _ _ _ rfl O3.out ⟨w2.heap.size, 0, none⟩ 1 1 (eop e).cells rfl rfl (newsO w2 (eop e)) (oneO _) (by unfold maxLen; omega) (by omega) (by simp; omega) ?_)) | (refine wpList_build1 rfl 43 82 _ rfl i0 _ Tryd.underlying43 hi hz0 3 hz1 (eop e).cells rfl (fillO _ _ _) (by decide) (by decide) ?_))
          intro v' w4 hown hgrow _ hat
          have HS := Hid.mk (hd.out.step hp A3.out hown (gx_app hgrow (by simpa using hat)))
          obtain ⟨va, vc, rfl, -⟩ := row_shape hown
          clear hown hgrow hat hd
          refine Hid.out ?_
          refine Lib.hid ?_
          go_wp2_with fail
          go_roundg m
          case measure => (have := HMM.out; simp only [List.length_cons]; have := HM.out; omega)
          case rel => exact ⟨r, _, HM.out, by rw [HM.out], HS, _, _, _, rfl⟩
        have p1 : (e.k : Int) ≠ 1 := by omega
        by_cases h2 : e.k = 2
        · have p2 : ((e.k : Int) != 2) = false := by simp; omega
          have hp : pops s e = true := by unfold pops; rw [if_pos h6, h2]; rfl
          clear h1 h2 h6 hz hs6
          have CE := Hid.mk (entOpS e W1)
          unfold opA at CE
          have hcm : ¬ c = 0 := by omega
          go_upto_region 7 with fail
          go_wp2_with (first | (go_at_call 48; go_must (refine CE.out.mono ?_; rintro e' w2 ⟨rfl, hb2⟩; have A2 := Hid.mk (below_then A1.out hb2); have A3 : Hid (Below wr.heap.size wr (w2.alloc (.cells (eop e).cells.toArray 82))) := below_alloc' A2.out _; have O3 := Hid.mk (hd.out.o.below A3.out); have hs2 : B ≤ w2.heap.size := Nat.le_trans hBr A2.out.size; clear hb2)) | (at_builtin; go_must (refine wpList_append_own_at _ rfl _ _ 43 rfl B 82 i0 (.agg #[.int .i64 0, .int .i64 0, .string ⟨#[]⟩]) 3 32 Tryd.underlying43 hi hz0 hz1 hz2 rfl (by decide) _ _ _ rfl O3.out ⟨w2.heap.size, 0, none⟩ 1 1 (eop e).cells rfl rfl (newsO w2 (eop e)) (oneO _) (by unfold maxLen; omega) (by omega) (by simp; omega) ?_)) | (refine wpList_build1 rfl 43 82 _ rfl i0 _ Tryd.underlying43 hi hz0 3 hz1 (eop e).cells rfl (fillO _ _ _) (by decide) (by decide) ?_))
          intro v' w4 hown hgrow _ hat
          have HS := Hid.mk (hd.out.step hp A3.out hown (gx_app hgrow (by simpa using hat)))
          obtain ⟨va, vc, rfl, -⟩ := row_shape hown
          clear hown hgrow hat hd
          refine Hid.out ?_
          refine Lib.hid ?_
          go_wp2_with fail
          go_roundg m
          case measure => (have := HMM.out; simp only [List.length_cons]; have := HM.out; omega)
          case rel => exact ⟨r, _, HM.out, by rw [HM.out], HS, _, _, _, rfl⟩
        have p2 : (e.k : Int) ≠ 2 := by omega
        have p3 : ((e.k : Int) != 1 && (e.k : Int) != 2) = true := by simp; omega
        have hp : pops s e = false := by unfold pops; rw [if_pos h6]; simp; omega
        clear h1 h2 h6 hz hs6
        have HF := Hid.mk (hd.out.fin (w' := W1) (dr_stop hp) A1.out)
        rw [show (e :: r).length = M by simp [← HM.out, HMM.out]] at HF
        clear hd
        go_wp2
        go_ret2
        exact HF.out
      · have q6 : (z == 6) = false := by simp; omega
        have q7 : z < 6 := by omega
        by_cases h3 : e.k = 3
        · have p3 : ((e.k : Int) != 3) = false := by simp; omega
          have CB := Hid.mk (fun W => bstrS e.v W)
          by_cases h4 : bstr e.v < z
          · have p4 : bstr e.v < z := h4
            have hp : pops s e = false := by unfold pops; rw [if_neg h6, h3]; simp; omega
            clear h3 h4 h6 hz hs6
            have HF := Hid.mk (hd.out.fin (w' := W1) (dr_stop hp) A1.out)
            rw [show (e :: r).length = M by simp [← HM.out, HMM.out]] at HF
            clear hd
            go_wp2_with (go_at_call 47; go_must (refine (CB.out _).mono ?_; rintro e w' ⟨rfl, hww⟩; rw [hww]; clear hww))
            go_ret2
            exact HF.out
          · have p4 : decide (bstr e.v < z) = false := by simp; omega
            have hp : pops s e = true := by unfold pops; rw [if_neg h6, h3]; simp; omega
            clear h3 h4 h6 hz hs6
            have CE := Hid.mk (entOpS e W1)
            unfold opA at CE
            have hcm : ¬ c = 0 := by omega
            go_upto_region 7 with (go_at_call 47; go_must (refine (CB.out _).mono ?_; rintro e w' ⟨rfl, hww⟩; rw [hww]; clear hww))
            go_wp2_with (first | (go_at_call 48; go_must (refine CE.out.mono ?_; rintro e' w2 ⟨rfl, hb2⟩; have A2 := Hid.mk (below_then A1.out hb2); have A3 : Hid (Below wr.heap.size wr (w2.alloc (.cells (eop e).cells.toArray 82))) := below_alloc' A2.out _; have O3 := Hid.mk (hd.out.o.below A3.out); have hs2 : B ≤ w2.heap.size := Nat.le_trans hBr A2.out.size; clear hb2)) | (at_builtin; go_must (refine wpList_append_own_at _ rfl _ _ 43 rfl B 82 i0 (.agg #[.int .i64 0, .int .i64 0, .string ⟨#[]⟩]) 3 32 Tryd.underlying43 hi hz0 hz1 hz2 rfl (by decide) _ _ _ rfl O3.out ⟨w2.heap.size, 0, none⟩ 1 1 (eop e).cells rfl rfl (newsO w2 (eop e)) (oneO _) (by unfold maxLen; omega) (by omega) (by simp; omega) ?_)) | (refine wpList_build1 rfl 43 82 _ rfl i0 _ Tryd.underlying43 hi hz0 3 hz1 (eop e).cells rfl (fillO _ _ _) (by decide) (by decide) ?_))
            intro v' w4 hown hgrow _ hat
            have HS := Hid.mk (hd.out.step hp A3.out hown (gx_app hgrow (by simpa using hat)))
            obtain ⟨va, vc, rfl, -⟩ := row_shape hown
            clear hown hgrow hat hd
            refine Hid.out ?_
            refine Lib.hid ?_
            go_wp2_with fail
            go_roundg m
            case measure => (have := HMM.out; simp only [List.length_cons]; have := HM.out; omega)
            case rel => exact ⟨r, _, HM.out, by rw [HM.out], HS, _, _, _, rfl⟩
        · have p3 : (e.k : Int) ≠ 3 := by omega
          have hp : pops s e = false := by unfold pops; rw [if_neg h6]; simp [h3]
          clear h3 h6 hz hs6
          have HF := Hid.mk (hd.out.fin (w' := W1) (dr_stop hp) A1.out)
          rw [show (e :: r).length = M by simp [← HM.out, HMM.out]] at HF
          clear hd
          go_wp2
          go_ret2
          exact HF.out
end Go.Proofs.YtfoigigbggickaaDoor.Par
namespace Go.Proofs.YtfoigigbggickaaDoor.Par
open Go Go.RowKit Go.Proofs.YtfoigigbggickaaDoor.Mem Go.Proofs.YtfoigigbggickaaDoor.Syn Go.Proofs.YtfoigigbggickaaDoor.Parse
set_option linter.unusedVariables false
set_option linter.unusedSimpArgs false
attribute [local go_sem ↓] Go.wp_at_zero Go.wp_at_succ

/-! What lies above the innermost open parenthesis: binary operators, and where an operand is wanted unary ones above them. -/
def wf : Bool → List Ent → Prop
  | _, [] => True
  | b, e :: r => (b = true ∧ (e.k = 1 ∨ e.k = 2) ∧ wf true r) ∨ (e.k = 3 ∧ wf false r) ∨ (4 ≤ e.k ∧ e.l ≤ 2 ∧ wf true r)
theorem wf.up : ∀ {st : List Ent}, wf false st → wf true st
  | [], _ => trivial
  | e :: r, h => by
    rw [wf] at h ⊢
    rcases h with ⟨h, _⟩ | h | h
    · cases h
    · exact Or.inr (Or.inl h)
    · exact Or.inr (Or.inr h)
theorem wf.dr6 : ∀ {st : List Ent} (out : List Po), wf true st → wf false (dr 6 st out).1
  | [], _, _ => trivial
  | e :: r, out, h => by
    rw [wf] at h
    rw [dr]
    rcases h with ⟨_, h, h'⟩ | h | h
    · have hp : pops 6 e = true := by unfold pops; rw [if_pos rfl]; rcases h with h | h <;> rw [h] <;> rfl
      rw [if_pos hp]
      exact h'.dr6 _
    · have hp : pops 6 e = false := by unfold pops; rw [if_pos rfl, h.1]; rfl
      rw [hp]
      show wf false (e :: r)
      rw [wf]; exact Or.inr (Or.inl h)
    · have hp : pops 6 e = false := by unfold pops; rw [if_pos rfl]; simp; omega
      rw [hp]
      show wf false (e :: r)
      rw [wf]; exact Or.inr (Or.inr h)
theorem wf.dr5 {s : Nat} (hs : s ≤ 5) : ∀ {st : List Ent} (out : List Po), wf false st → wf false (dr s st out).1
  | [], _, _ => trivial
  | e :: r, out, h => by
    have h0 := h
    rw [wf] at h
    rw [dr]
    split
    · rename_i hp
      rcases h with ⟨h, _⟩ | h | h
      · cases h
      · exact h.2.dr5 hs _
      · unfold pops at hp; rw [if_neg (by omega)] at hp; simp at hp; omega
    · exact h0
theorem wf.inner : ∀ {st : List Ent} (out : List Po), wf false st → (inn st = none ∧ innI st = -1 ∧ (dr 1 st out).1 = []) ∨ ∃ e pre r, inn st = some e ∧ st = pre ++ e :: r ∧ innI st = (r.length : Int) ∧ (dr 1 st out).1 = e :: r ∧ 4 ≤ e.k ∧ e.l ≤ 2 ∧ wf true r
  | [], _, _ => Or.inl ⟨rfl, rfl, rfl⟩
  | e :: r, out, h => by
    rw [wf] at h
    rcases h with ⟨h, _⟩ | ⟨h3, h⟩ | ⟨h4, hl, h⟩
    · cases h
    · have hp : pops 1 e = true := by unfold pops; rw [if_neg (by omega), h3]; simp; exact (bstr_in e.v).1
      rw [inn, innI, dr, if_pos hp, if_neg (by omega), if_neg (by omega)]
      rcases h.inner (out ++ [eop e]) with h1 | ⟨e', pre, r', a1, a2, a3, a4, a5, a6, a7⟩
      · exact Or.inl h1
      · exact Or.inr ⟨e', e :: pre, r', a1, by rw [a2]; rfl, a3, a4, a5, a6, a7⟩
    · have hp : pops 1 e = false := by unfold pops; rw [if_neg (by omega)]; simp; intro e'; omega
      rw [inn, innI, dr, hp, if_pos h4, if_pos h4]
      exact Or.inr ⟨e, [], r, rfl, rfl, rfl, rfl, h4, hl, h⟩
theorem ends_inl {T : Nat → Tk} {S S' : MS} {R : Rs (List Po × Nat × Nat)} (h : Ends T S R) (e : stp T S = .inl S') : Ends T S' R := by
  cases h with
  | stop _ _ h => rw [h] at e; cases e
  | go _ S2 _ h h' => rw [h] at e; injection e with e; rw [← e]; exact h'
theorem ends_inr {T : Nat → Tk} {S : MS} {R R' : Rs (List Po × Nat × Nat)} (h : Ends T S R) (e : stp T S = .inr R') : R = R' := by
  cases h with
  | stop _ _ h => rw [h] at e; injection e
  | go _ S2 _ h h' => rw [h] at e; cases e
theorem flt_eq (T : Nat → Tk) (c : Int) (i : Nat) : flt T c i = .bad (fcode c (T i)) (T i).at' := by
  unfold flt fcode
  split
  · rfl
  · split <;> rfl
theorem fcode_lt {c : Int} {x : Tk} (h : x.k < 50) : fcode c x = c := by unfold fcode; rw [if_neg (by omega), if_neg (by omega)]
/-- What l2Expr answers. -/
def ExO (t : List UInt8) (g N c : Nat) (w : World) (R : Rs (List Po × Nat × Nat)) (r : Ending) (w' : World) : Prop :=
  ∃ (s' : Sg) (v : Value) (L : List Po), r = .returned (.tuple #[s'.v g N c, v]) ∧ s'.i < N ∧ s'.o ≤ 2000 ∧ OwnO w.heap.size w' v L ∧ (den (tkT t) s').bnd (fun j => Rs.ok (L, j, s'.o)) = R ∧ Below w.heap.size w w'
/-- The frame while an expression is read: the parser's box, the answer's, the two rows. -/
structure Mz (g N c a : Nat) (w : World) (iI oI : Int) (sv : Value) (st : List Ent) (ov : Value) (out : List Po) (wr : World) : Prop where
  b : wr.heap[w.heap.size]? = some (.cells #[.slice (some ⟨g, 0, none⟩) N c, .int .i64 iI, .int .i64 oI, .int .i64 0, .int .i64 (a : Int)] 38)
  r : wr.heap[w.heap.size + 1]? = some (.cells #[.slice none 0 0, .int .i64 0, .int .i64 0, .int .i64 0, .int .i64 0] 38)
  e : OwnE w.heap.size wr sv st
  o : OwnO w.heap.size wr ov out
  bel : Below w.heap.size w wr
variable {g N c a : Nat} {w wr w' : World} {iI oI : Int} {sv ov : Value} {st : List Ent} {out : List Po}
theorem row_set'' {B s n r i : Nat} {v u : Value} {e t : TypeId} {xs : List Value} {C : Array Value} {fr : Nat × Nat} (h : w.ownsRow B e s v n xs) (hx : w.heap[r]? = some (.cells C t fr)) (hne : e ≠ t) : (w.setCell ⟨r, i, none⟩ u).ownsRow B e s v n xs := by
  refine ⟨h.1, ?_⟩
  rcases h.2 with h1 | ⟨g0, cap, cur, h1, h2, h3, h4⟩
  · exact Or.inl h1
  · refine Or.inr ⟨g0, cap, cur, h1, h2, blk_set_other h3 (fun e' => ?_) _, h4⟩
    have e'' : g0 = r := e'
    rw [e''] at h3
    rw [hx] at h3
    injection h3 with h3
    injection h3 with _ h3 _
    exact hne h3.symm
theorem Mz.below (h : Mz g N c a w iI oI sv st ov out wr) (hb : Below wr.heap.size wr w') : Mz g N c a w iI oI sv st ov out w' :=
  ⟨blk_below h.b hb, blk_below h.r hb, h.e.below hb, h.o.below hb, below_then h.bel hb⟩
theorem Mz.al (h : Mz g N c a w iI oI sv st ov out wr) (o : Obj) : Mz g N c a w iI oI sv st ov out (wr.alloc o) := h.below (below_alloc' (Below.refl _ _) _)
theorem Mz.seti (h : Mz g N c a w iI oI sv st ov out wr) (x : Int) : Mz g N c a w x oI sv st ov out (wr.setCell ⟨w.heap.size, 1, none⟩ (.int .i64 x)) :=
  ⟨blk_set h.b 1 _, blk_set_other h.r (by simp) _, row_set'' h.e h.b (by decide), row_set'' h.o h.b (by decide), h.bel.setCell (p := ⟨w.heap.size, 1, none⟩) (Nat.le_refl _) _⟩
theorem Mz.seto (h : Mz g N c a w iI oI sv st ov out wr) (x : Int) : Mz g N c a w iI x sv st ov out (wr.setCell ⟨w.heap.size, 2, none⟩ (.int .i64 x)) :=
  ⟨blk_set h.b 2 _, blk_set_other h.r (by simp) _, row_set'' h.e h.b (by decide), row_set'' h.o h.b (by decide), h.bel.setCell (p := ⟨w.heap.size, 2, none⟩) (Nat.le_refl _) _⟩
theorem Mz.gx {ov' : Value} {sv' : Value} {st' : List Ent} {out' : List Po} (h : Mz g N c a w iI oI sv st ov out wr) (hg : Gx ov wr ov' w') (he : OwnE w.heap.size w' sv' st') (ho : OwnO w.heap.size w' ov' out') : Mz g N c a w iI oI sv' st' ov' out' w' :=
  ⟨hg.blk h.o h.b (by decide), hg.blk h.o h.r (by decide), he, ho, h.bel.grown hg.1 h.bel.size (fun k hk => (h.o.lt k hk).1)⟩
/-- Behind an append to what is open. -/
theorem Mz.push {v' : Value} {e : Ent} (h : Mz g N c a w iI oI sv st ov out wr) (row : w'.ownsRow w.heap.size 89 3 v' (st.length + 1) (stC st ++ e.cells)) (hg : wr.grownBy w' sv.ownBlock) : Mz g N c a w iI oI v' (e :: st) ov out w' := by
  have hk : ∀ {q : Nat} {C : Array Value} {t : TypeId} {fr : Nat × Nat}, wr.heap[q]? = some (.cells C t fr) → t ≠ 89 → w'.heap[q]? = some (.cells C t fr) := fun {q C t fr} hq ht => by
    rw [hg.block q (blk_lt hq) (fun e => ?_)]
    · exact hq
    · obtain ⟨c2, f2, h2⟩ := row_kind h.e q e.symm
      rw [hq] at h2
      injection h2 with h2
      injection h2 with _ h2 _
      exact ht h2
  exact ⟨hk h.b (by decide), hk h.r (by decide), OwnE.push row, h.o.gb2 h.e hg, h.bel.grown hg h.bel.size (fun k hk => (h.e.lt k hk).1)⟩
theorem Mz.snoc {v' : Value} {o : Po} (h : Mz g N c a w iI oI sv st ov out wr) (row : w'.ownsRow w.heap.size 82 3 v' (out.length + 1) (opCs out ++ o.cells)) (hg : Gx ov wr v' w') : Mz g N c a w iI oI sv st v' (out ++ [o]) w' :=
  h.gx hg (h.e.gx h.o hg) (OwnO.snoc row)
/-- What the loop over an expression keeps. -/
structure Ez (t : List UInt8) (g N c a : Nat) (w : World) (R : Rs (List Po × Nat × Nat)) (S : MS) (sv ov : Value) (wr : World) : Prop where
  m : Mz g N c a w (S.i : Int) (S.o : Int) sv S.st ov S.out wr
  en : Ends (tkT t) S R
  wf : wf S.want S.st
  hi : S.i < N
  ln : S.st.length + S.out.length ≤ S.i
  o2 : S.o ≤ 2000
/-- A fault: the answer is the machine's. -/
theorem Ez.bad {t : List UInt8} {R : Rs (List Po × Nat × Nat)} {i o : Nat} {v : Value} {L : List Po} {cc : Int} (hR : R = .bad (fcode cc (tkT t i)) (tkT t i).at') (hc : cc ≠ 0) (hi : i < N) (ho : o ≤ 2000) (hO : OwnO w.heap.size w' v L) (hb : Below w.heap.size w w') : ExO t g N c w R (.returned (.tuple #[parV g N c i o (fcode cc (tkT t i)) (tkT t i).at', v])) w' :=
  ⟨⟨i, o, fcode cc (tkT t i), (tkT t i).at'⟩, v, L, rfl, hi, ho, hO, by rw [hR, den_bad (fcode_ne hc _)]; rfl, hb⟩
end Go.Proofs.YtfoigigbggickaaDoor.Par
