import Derived.Test.YtfoigigbggickaaDoorPq30
import Derived.Test.YtfoigigbggickaaDoorPq33
import Derived.Test.YtfoigigbggickaaDoorPq36
import Derived.Test.YtfoigigbggickaaDoorPq37
import Derived.Test.YtfoigigbggickaaDoorPq17
namespace Go.Proofs.YtfoigigbggickaaDoor.Par
open Go Go.RowKit Go.Proofs.YtfoigigbggickaaDoor.Mem Go.Proofs.YtfoigigbggickaaDoor.Syn Go.Proofs.YtfoigigbggickaaDoor.Parse
set_option linter.unusedVariables false
set_option linter.unusedSimpArgs false

variable {t : List UInt8} {g N c a i o : Nat} {w wr : World} {R : Rs (List Po × Nat × Nat)} {st : List Ent} {out : List Po} {v0 v3 ov sv wt v7 v8 v9 v10 v11 v12 v13 v14 v15 : Value} {r : List Value}
theorem xW_eq : xW = .seq (sL xW) (sR xW) := rfl
theorem nlB {bt : Nat} {x : Tk} (hx : x = tkT t i) (hr : r.length = 357) (hT : Hid (Tq t N g w)) (hNf : Hid (Nf t N)) (E : Hid (Ez t g N c a w R ⟨i, o, st, out, true⟩ sv ov wr)) (h50 : (tkT t i).k < 50) (hl : (leafR (tkT t i)).1 = false)
    (T1 : Hid (Tb w bt #[.int .i64 (kS x), .int .i64 x.v, .string ⟨(wS x).toArray⟩, .int .i64 (x.at' : Int)] 40 wr)) :
    Code.wp Tryd.prog xNL (RQ t g N c a w R i) (Fz w v0 v3 ov sv (.bool true) (.pointer (some ⟨bt, 0, none⟩)) v8 v9 v10 v11 v12 v13 v14 v15 r) wr := by
  have hN5 := hNf.out.le
  have M : Hid (Mz g N c a w (i : Int) (o : Int) sv st ov out wr) := Hid.mk E.out.m
  have hi : i < N := E.out.hi
  have ho : o ≤ 2000 := E.out.o2
  by_cases h10 : (tkT t i).k = 10
  · exact un24A hr hT hN5 hi M h10 (Hid.mk fun r1 w1 hr1 hb => unB hx hr1 hT hNf (Hid.mk (E.out.below hb)) h50 hl (Or.inl h10) (Hid.mk (T1.out.below hb)))
  by_cases h47 : (tkT t i).k = 47
  · exact un24C hr hT hN5 hi M h47 (Hid.mk fun r1 w1 hr1 hb => unB hx hr1 hT hNf (Hid.mk (E.out.below hb)) h50 hl (Or.inr h47) (Hid.mk (T1.out.below hb)))
  refine un24B hr hT hN5 hi M ⟨h10, h47⟩ (Hid.mk fun r1 w1 hr1 hb1 => ?_)
  have E1 := Hid.mk (E.out.below hb1)
  have T1 := Hid.mk (T1.out.below hb1)
  have M1 := Hid.mk (M.out.below hb1)
  by_cases h5 : (tkT t i).k = 5
  · exact par35A hr1 hT hN5 hi M1 h5 (Hid.mk fun r2 w2 hr2 hb => parB hr2 hT hNf (Hid.mk (E1.out.below hb)) h50 hl h5)
  refine par35B hr1 hT hN5 hi M1 h5 (Hid.mk fun r2 w2 hr2 hb2 => ?_)
  have E2 := Hid.mk (E1.out.below hb2)
  have T2 := Hid.mk (T1.out.below hb2)
  have M2 := Hid.mk (M1.out.below hb2)
  by_cases h25 : (tkT t i).k = 25
  · exact call40A hr2 hT hN5 hi M2 h25 (Hid.mk fun r3 w3 hr3 hb => callB hx hr3 hT hNf (Hid.mk (E2.out.below hb)) h50 hl (by omega) (Hid.mk (T2.out.below hb)))
  by_cases h26 : (tkT t i).k = 26
  · exact call40C hr2 hT hN5 hi M2 h26 (Hid.mk fun r3 w3 hr3 hb => callB hx hr3 hT hNf (Hid.mk (E2.out.below hb)) h50 hl (by omega) (Hid.mk (T2.out.below hb)))
  by_cases h27 : (tkT t i).k = 27
  · exact call40D hr2 hT hN5 hi M2 h27 (Hid.mk fun r3 w3 hr3 hb => callB hx hr3 hT hNf (Hid.mk (E2.out.below hb)) h50 hl (by omega) (Hid.mk (T2.out.below hb)))
  refine call40B hr2 hT hN5 hi M2 ⟨h25, h26, h27⟩ (Hid.mk fun r3 w3 hr3 hb3 => ?_)
  have hst := stp_nl (o := o) (st := st) (out := out) h50 hl
  rw [if_neg (show ¬ ((tkT t i).k = 10 ∨ (tkT t i).k = 47) by omega), if_neg h5, if_neg (by omega)] at hst
  exact fail57 (m := 0) hr3 hT.out hN5 hi ho (E.out.bad6 h50 hst) (Hid.mk (M2.out.below hb3)) (Hid.mk fun a' wx h => h)
theorem wantB {bt : Nat} {x : Tk} (hx : x = tkT t i) (hr : r.length = 357) (hT : Hid (Tq t N g w)) (hNf : Hid (Nf t N)) (E : Hid (Ez t g N c a w R ⟨i, o, st, out, true⟩ sv ov wr)) (h50 : (tkT t i).k < 50)
    (T1 : Hid (Tb w bt #[.int .i64 (kS x), .int .i64 x.v, .string ⟨(wS x).toArray⟩, .int .i64 (x.at' : Int)] 40 wr)) :
    Code.wp Tryd.prog xW (RQ t g N c a w R i) (Fz w v0 v3 ov sv (.bool true) (.pointer (some ⟨bt, 0, none⟩)) v8 v9 v10 v11 v12 v13 v14 v15 r) wr := by
  have M : Hid (Mz g N c a w (i : Int) (o : Int) sv st ov out wr) := Hid.mk E.out.m
  have hc : Hid (Tc x) := Hid.mk (by rw [hx]; exact tk_cl t i)
  rw [xW_eq]
  refine wp_seq (leaf9 hr hc M T1 (Hid.mk fun r1 bo w1 hr1 hb hbo HO => ?_))
  have hfar := M.out.far hbo
  cases hl : (leafR x).1 with
  | true => exact leaf10A hr1 (Hid.mk fun r2 hr2 => leafB hr2 hT hNf (Hid.mk (E.out.below hb)) h50 (Prod.ext (by rw [← hx]; exact hl) (by rw [← hx])) (Hid.mk HO) hfar)
  | false => exact leaf10B hr1 (Hid.mk fun r2 hr2 => nlB hx hr2 hT hNf (Hid.mk (E.out.below hb)) h50 (by rw [← hx]; exact hl) (Hid.mk (T1.out.below hb)))
theorem roundX {S : MS} (hr : r.length = 357) (hT : Hid (Tq t N g w)) (hNf : Hid (Nf t N)) (E : Hid (Ez t g N c a w R S sv ov wr)) :
    Code.wp Tryd.prog xL (RQ t g N c a w R S.i) (Fz w v0 v3 ov sv (.bool S.want) v7 v8 v9 v10 v11 v12 v13 v14 v15 r) wr := by
  obtain ⟨i, o, st, out, want⟩ := S
  have hN5 := hNf.out.le
  have M : Hid (Mz g N c a w (i : Int) (o : Int) sv st ov out wr) := Hid.mk E.out.m
  have hi : i < N := E.out.hi
  have ho : o ≤ 2000 := E.out.o2
  rw [xL_eq]
  refine wp_seq (top4A hr M (Hid.mk fun r1 hr1 => wp_skip ?_))
  refine wp_block (wp_mono (Q := RQ t g N c a w R i) ?_ ?_)
  · rw [xX_eq]
    obtain ⟨x, hx⟩ : ∃ x, x = tkT t i := ⟨_, rfl⟩
    have h51 : x.k ≤ 51 := by rw [hx]; exact tk_le t i
    refine wp_seq (tok5 hr1 (Hid.mk hx) hT hN5 hi M (Hid.mk fun r2 bt w2 hr2 hb2 M2 T2 => ?_))
    by_cases h50 : 50 ≤ x.k
    · refine wp_seq (kind6A hr2 h51 (Hid.mk T2) h50 (Hid.mk fun r3 hr3 => ?_))
      exact fail7 (m := 0) hr3 hT.out hN5 hi ho (by rw [← flt_eq]; exact ends_inr E.out.en (stp_fin (by rw [← hx]; exact h50) _)) (Hid.mk M2) (Hid.mk fun a' wx h => h)
    have h50' : (tkT t i).k < 50 := by rw [← hx]; omega
    refine wp_seq (kind6B hr2 h51 (Hid.mk T2) (by omega) (Hid.mk fun r3 hr3 => wp_skip ?_))
    have E2 := Hid.mk (E.out.below hb2)
    cases want with
    | true => exact want8A hr3 (Hid.mk fun r4 hr4 => wantB hx hr4 hT hNf E2 h50' (Hid.mk T2))
    | false => exact want8B hr3 (Hid.mk fun r4 hr4 => noB hx hr4 hT hNf E2 h50' (Hid.mk T2))
  · intro e a' wx h
    cases e <;> first | exact h | exact False.elim h
theorem frameN (v : Value) (n : Nat) : #[v] ++ Array.replicate n undef = (v :: List.replicate n undef).toArray := by
  apply Array.toList_inj.1
  simp
theorem frame0 (v : Value) : (#[v] ++ Array.replicate (Tryd.f27.ntmps - (#[v] : Array Value).size) undef) = (v :: List.replicate 372 undef).toArray := by
  exact frameN v 372
theorem exprS (t : List UInt8) (g N c i o a : Nat) (R : Rs (List Po × Nat × Nat)) (w : World) (hT : Tq t N g w) (hN : Nf t N) (hi : i < N) (ho : o ≤ 2000) (hE : Ends (tkT t) ⟨i, o, [], [], true⟩ R) :
    Calls Tryd.prog 27 #[parV g N c i o 0 a] w fun r w' => ExO t g N c w R r w' := by
  have E0 := ez_start t g N c i o a R w hi ho hE
  refine calls_of_wp Tryd.func27 (c := x0) rfl ?_
  rw [frame0, x0_eq]
  unfold parV
  refine start0 List.length_replicate (Hid.mk fun v0 v7 v8 v9 v10 v11 v12 v13 v14 v15 r hr => ?_)
  refine wp_seq (wp_block ?_)
  refine wp_loop_ghost (fun n a' wx => ∃ (v0 v3 ov sv wt v7 v8 v9 v10 v11 v12 v13 v14 v15 : Value) (r : List Value) (S : MS), a' = Fz w v0 v3 ov sv wt v7 v8 v9 v10 v11 v12 v13 v14 v15 r ∧ r.length = 357 ∧ wt = .bool S.want ∧ n = N - S.i ∧ Ez t g N c a w R S sv ov wx) (N - i) ⟨v0, _, _, _, _, v7, v8, v9, v10, v11, v12, v13, v14, v15, r, ⟨i, o, [], [], true⟩, rfl, hr, rfl, rfl, E0⟩ ?_
  rintro n a' wx ⟨v0, v3, ov, sv, wt, v7, v8, v9, v10, v11, v12, v13, v14, v15, r, S, rfl, hr, rfl, rfl, E⟩
  refine wp_mono (roundX hr (Hid.mk hT) (Hid.mk hN) (Hid.mk E)) ?_
  intro e a'' wy h
  cases e with
  | normal =>
    obtain ⟨v0, v3, ov, sv, wt, v7, v8, v9, v10, v11, v12, v13, v14, v15, r, S', rfl, hr, rfl, hm, E'⟩ := h
    exact ⟨N - S'.i, by have := E'.hi; have := E.hi; omega, v0, v3, ov, sv, _, v7, v8, v9, v10, v11, v12, v13, v14, v15, r, S', rfl, hr, rfl, rfl, E'⟩
  | ret => exact h
  | exit id => exact False.elim h
  | goto l => exact False.elim h
  | panic ch => exact False.elim h
  | outgrown => exact False.elim h
/-- A call where a fault was found before: nothing is read. -/
theorem exprE (t : List UInt8) (g N c i o a : Nat) (e : Int) (w : World) (he : e ≠ 0) :
    Calls Tryd.prog 27 #[parV g N c i o e a] w fun r w' => ∃ v, r = .returned (.tuple #[parV g N c i o e a, v]) ∧ OwnO w.heap.size w' v [] ∧ Below w.heap.size w w' := by
  refine calls_of_wp Tryd.func27 (c := x0) rfl ?_
  rw [frame0, x0_eq]
  unfold parV
  refine start0 List.length_replicate (Hid.mk fun v0 v7 v8 v9 v10 v11 v12 v13 v14 v15 r hr => ?_)
  refine wp_seq (wp_block ?_)
  obtain ⟨W, hW⟩ : ∃ W, W = ((((w.alloc (.cells #[.slice (some ⟨g, 0, none⟩) N c, .int .i64 (i : Int), .int .i64 (o : Int), .int .i64 e, .int .i64 (a : Int)] 38)).alloc (.cells #[.slice none 0 0, .int .i64 0, .int .i64 0, .int .i64 0, .int .i64 0] 38)).alloc (.cells #[] 82)).alloc (.cells #[] 89)) := ⟨_, rfl⟩
  rw [← hW]
  have HB : Hid (W.heap[w.heap.size]? = some (.cells #[.slice (some ⟨g, 0, none⟩) N c, .int .i64 (i : Int), .int .i64 (o : Int), .int .i64 e, .int .i64 (a : Int)] 38)) := by rw [hW]; exact blk_alloc (blk_alloc (blk_alloc (blk_new _ _) _) _) _
  have HR : Hid (W.heap[w.heap.size + 1]? = some (.cells #[.slice none 0 0, .int .i64 0, .int .i64 0, .int .i64 0, .int .i64 0] 38)) := by rw [hW]; exact blk_alloc (blk_alloc (blk_new1 _ _ _) _) _
  have KK : Kr w.heap.size w (w.heap.size + 1) (.slice (some ⟨w.heap.size + 1 + 1, 0, none⟩) 0 0) [] W := by
    refine ⟨?_, ⟨_, HR.out⟩, ?_⟩
    · rw [hW]
      have := World.ownsRow_made (base := w.heap.size) (e := 82) (size := 3) ((w.alloc (.cells #[.slice (some ⟨g, 0, none⟩) N c, .int .i64 (i : Int), .int .i64 (o : Int), .int .i64 e, .int .i64 (a : Int)] 38)).alloc (.cells #[.slice none 0 0, .int .i64 0, .int .i64 0, .int .i64 0, .int .i64 0] 38)) #[] 0 (by simp; omega) (by unfold maxLen; omega) (by simp)
      have hz : ((w.alloc (.cells #[.slice (some ⟨g, 0, none⟩) N c, .int .i64 (i : Int), .int .i64 (o : Int), .int .i64 e, .int .i64 (a : Int)] 38)).alloc (.cells #[.slice none 0 0, .int .i64 0, .int .i64 0, .int .i64 0, .int .i64 0] 38)).heap.size = w.heap.size + 1 + 1 := by simp
      rw [hz] at this
      refine OwnO.below (L := []) ?_ (below_alloc' (Below.refl _ _) _)
      exact this
    · rw [hW]; exact below_alloc' (below_alloc' (below_alloc' (below_alloc' (Below.refl _ _) _) _) _) _
  clear hW
  refine wp_loop_ghost (fun n a' wx => n = 0 ∧ wx = W ∧ ∃ (v0 v7 v8 v9 v10 v11 v12 v13 v14 v15 : Value) (r : List Value), a' = Fz w v0 (.slice none 0 0) (.slice (some ⟨w.heap.size + 1 + 1, 0, none⟩) 0 0) (.slice (some ⟨w.heap.size + 1 + 1 + 1, 0, none⟩) 0 0) (.bool true) v7 v8 v9 v10 v11 v12 v13 v14 v15 r ∧ r.length = 357) 0 ⟨rfl, rfl, v0, v7, v8, v9, v10, v11, v12, v13, v14, v15, r, rfl, hr⟩ ?_
  rintro n a' wx ⟨rfl, rfl, v0, v7, v8, v9, v10, v11, v12, v13, v14, v15, r, rfl, hr⟩
  rw [xL_eq]
  refine wp_seq (top4e hr HB he (Hid.mk fun r1 hr1 => wp_exit ?_))
  show Code.wp _ (sR (sR (sR (sR (sR x0))))) _ _ _
  refine ret91 hr1 HB HR (Hid.mk fun a' wy h => ?_)
  obtain ⟨hd, v, hv, hx, hk⟩ := h
  refine ⟨hd, v, hv, _, hx, ?_⟩
  have K2 := hk [] KK
  exact ⟨K2.o, K2.bel⟩
end Go.Proofs.YtfoigigbggickaaDoor.Par
namespace Go.Proofs.YtfoigigbggickaaDoor.Par
open Go Go.RowKit Go.Proofs.YtfoigigbggickaaDoor.Mem Go.Proofs.YtfoigigbggickaaDoor.Syn Go.Proofs.YtfoigigbggickaaDoor.Parse
set_option linter.unusedVariables false
set_option linter.unusedSimpArgs false
attribute [local go_sem ↓] Go.wp_at_zero Go.wp_at_succ

theorem Nqs.get {w : World} {ok : Nat → Prop} {vs : List Value} {ts : List Tr} (h : Nqs w ok vs ts) (k : Nat) (hk : k < ts.length) : ∃ v, vs[k]? = some v ∧ Nq w ok v ts[k] := by
  induction h generalizing k with
  | nil => simp at hk
  | cons v t vs ts h hs ih =>
    cases k with
    | zero => exact ⟨v, rfl, h⟩
    | succ k => exact ih k (by simpa using hk)
theorem pfs_take {ts : List Tr} {k : Nat} (hk : k < ts.length) : pfs (ts.take (k + 1)) = pfs (ts.take k) ++ (ts[k]).pf := by
  unfold pfs; rw [List.take_succ_eq_append_getElem hk, List.flatMap_append]; simp
theorem pfs_take_le (ts : List Tr) (k : Nat) : (pfs (ts.take k)).length ≤ (pfs ts).length := by
  conv => rhs; rw [← List.take_append_drop k ts]
  unfold pfs; rw [List.flatMap_append, List.length_append]; omega
/-- What the loop over a call's operands keeps. -/
structure Cl (B : Nat) (sv : Value) (L : List Po) (g m : Nat) (vs : List Value) (ts : List Tr) (C : Array Value) (w : World) (k : Nat) (cur : Value) (wr : World) : Prop where
  own : OwnO B wr cur (L ++ pfs (ts.take k))
  gx : Gx sv w cur wr
  box : wr.heap[w.heap.size]? = some (.cells C 121)
  nq : Nqs wr (fun _ => True) vs ts
  nk : Nk wr g
  cl : ∀ j u, vs[j]? = some u → wr.cell? ⟨g, j, none⟩ = some u
  hB : B ≤ wr.heap.size
  sh : ∃ a n c, cur = .slice a n c

theorem own_base {B B' : Nat} {w : World} {v : Value} {L : List Po} (h : OwnO B w v L) (hB : B' ≤ B) : OwnO B' w v L := by
  refine ⟨h.1, ?_⟩
  rcases h.2 with h0 | ⟨g, cap, cur, h1, h2, h3⟩
  · exact Or.inl h0
  · exact Or.inr ⟨g, cap, cur, h1, Nat.le_trans hB h2, h3⟩

set_option maxHeartbeats 6400000 in
set_option maxRecDepth 1000000 in
theorem pf_call (o : Po) (ts : List Tr) (hts : ∀ t ∈ ts, PfC t) (vs : List Value) (g c m : Nat) (hm : m = ts.length) (hm3 : m ≤ 3) (sv : Value) (L : List Po) (B : Nat) (w : World) (hnk : Nk w g) (hcl : ∀ j u, vs[j]? = some u → w.cell? ⟨g, j, none⟩ = some u) (hq : Nqs w (fun _ => True) vs ts) (hown : OwnO B w sv L) (hB : B ≤ w.heap.size) (hlen : L.length + (pfs ts).length + 1 ≤ 100000) :
    Calls Tryd.prog 68 #[sv, .iface 121 (.agg #[.int .i64 o.k, .int .i64 o.v, .string ⟨o.n.toArray⟩, .slice (some ⟨g, 0, none⟩) m c])] w fun e w' => ∃ v', e = .returned v' ∧ OwnO B w' v' (L ++ pfs ts ++ [o]) ∧ Gx sv w v' w' := by
  obtain ⟨i0, hi, hz0, hz1, hz2⟩ := info_parts infoO
  obtain ⟨sa, sn, sc, rfl⟩ : ∃ a n c, sv = .slice a n c := by obtain ⟨a, c, e, -⟩ := row_shape hown; exact ⟨_, _, _, e⟩
  obtain ⟨BOX, hBOX⟩ : ∃ v, v = Value.agg #[.int .i64 o.k, .int .i64 o.v, .string ⟨o.n.toArray⟩, .slice (some ⟨g, 0, none⟩) m c] := ⟨_, rfl⟩
  have ta0 := as_call_pre BOX
  have ta1 := as_call_bin BOX
  have ta2 := as_call_call BOX
  subst hBOX
  obtain ⟨W1, hW1⟩ : ∃ W, W = w.alloc (.cells #[.int .i64 o.k, .int .i64 o.v, .string ⟨o.n.toArray⟩, .slice (some ⟨g, 0, none⟩) m c] 121) := ⟨_, rfl⟩
  have A1 : Hid (Below w.heap.size w W1) := by rw [hW1]; exact below_alloc' (Below.refl _ _) _
  have C1 : Hid (Cl B (.slice sa sn sc) L g m vs ts #[.int .i64 o.k, .int .i64 o.v, .string ⟨o.n.toArray⟩, .slice (some ⟨g, 0, none⟩) m c] w 0 (.slice sa sn sc) W1) := ⟨by simpa [pfs] using hown.below A1.out, (Gx.refl _ _).post A1.out, by rw [hW1]; exact blk_new _ _, hq.keep (kn_below A1.out), hnk.below A1.out, fun j u hu => cell_keep A1.out (hcl j u hu), Nat.le_trans hB A1.out.size, ⟨_, _, _, rfl⟩⟩
  have HM := Hid.mk hm
  have HTS := Hid.mk hts
  have hgw : g < w.heap.size := by obtain ⟨C, fr, h⟩ := hnk; exact blk_lt h
  clear hown hq hnk hcl hm hts
  go_enter Tryd.func68, Tryd.ntmps68
  go_wp2_with fail
  rw [← hW1]
  clear hW1
  go_loopw [0, 43] (fun cur i wr => ∃ k : Nat, k ≤ m ∧ i = .int .i64 (k : Int) ∧ Hid (Cl B (.slice sa sn sc) L g m vs ts #[.int .i64 o.k, .int .i64 o.v, .string ⟨o.n.toArray⟩, .slice (some ⟨g, 0, none⟩) m c] w k cur wr)) (fun _ i _ => m - (intOf i).toNat)
  case atStart => exact ⟨0, Nat.zero_le _, rfl, C1⟩
  case round =>
    obtain ⟨k, hk, rfl, hc⟩ := hrel
    obtain ⟨ca, cn, cc, rfl⟩ := hc.out.sh
    by_cases hlt : k < m
    · have k0 : (0 : Int) ≤ (k : Int) := by omega
      have k1 : (k : Int) < (m : Int) := by omega
      have hkt : k < ts.length := by rw [← HM.out]; exact hlt
      obtain ⟨v, hv, hqv⟩ := hc.out.nq.get k hkt
      have y0 : wr.cell? ⟨g, k, none⟩ = some v := hc.out.cl k v hv
      have e9 : IntKind.i64.wrap ((k : Int) + 1) = (k : Int) + 1 := by rw [IntKind.wrap_i64]; omega
      have hle := pfs_take_le ts (k + 1)
      rw [pfs_take hkt, List.length_append] at hle
      have CC := Hid.mk (HTS.out ts[k] (List.getElem_mem hkt) v (.slice ca cn cc) (L ++ pfs (ts.take k)) B wr hqv hc.out.own hc.out.hB (by rw [List.length_append]; omega))
      clear hv hqv hle
      go_wp2_with (go_at_call 68; go_must (refine CC.out.mono ?_; rintro e w2 ⟨v2, rfl, o2, g2⟩; have HC2 : Hid (Cl B (.slice sa sn sc) L g m vs ts #[.int .i64 o.k, .int .i64 o.v, .string ⟨o.n.toArray⟩, .slice (some ⟨g, 0, none⟩) m c] w (k + 1) v2 w2) := ⟨by rw [pfs_take hkt, ← List.append_assoc]; exact o2, hc.out.gx.trans g2, g2.blk hc.out.own hc.out.box (by decide), hc.out.nq.keep (g2.kn hc.out.own), (g2.kn (ok := fun _ => True) hc.out.own).nk trivial hc.out.nk, fun j u hu => (g2.kn (ok := fun _ => True) hc.out.own).cell trivial hc.out.nk (hc.out.cl j u hu), Nat.le_trans hc.out.hB g2.1.size, (by obtain ⟨a, c, e, -⟩ := row_shape o2; exact ⟨_, _, _, e⟩)⟩; clear o2 g2))
      exact ⟨⟨k + 1, by omega, by first | rfl | go_num, HC2⟩, by simp [intOf]; omega⟩
    · have k1 : decide ((k : Int) < (m : Int)) = false := by simp; omega
      have hkm : k = ts.length := by rw [← HM.out]; omega
      have o0 := (blk_cell hc.out.box 0).trans rfl
      have o1 := (blk_cell hc.out.box 1).trans rfl
      have o2 := (blk_cell hc.out.box 2).trans rfl
      have AB : Hid (Below wr.heap.size wr (wr.alloc (.cells o.cells.toArray 82))) := below_alloc' (Below.refl _ _) _
      have OW : Hid (OwnO B wr (.slice ca cn cc) (L ++ pfs ts)) := by have := hc.out.own; rw [hkm, List.take_length] at this; exact this
      have OW2 := Hid.mk (OW.out.below AB.out)
      have hBr : B ≤ wr.heap.size := hc.out.hB
      have GX := Hid.mk (hc.out.gx.post AB.out)
      have hl2 : (L ++ pfs ts).length + 1 ≤ 100000 := by rw [List.length_append]; exact hlen
      clear hkm
      go_wp2_with (at_builtin; go_must (refine wpList_append_own_at _ rfl _ _ 43 rfl B 82 i0 (.agg #[.int .i64 0, .int .i64 0, .string ⟨#[]⟩]) 3 32 Tryd.underlying43 hi hz0 hz1 hz2 rfl (by decide) _ _ _ rfl OW2.out ⟨wr.heap.size, 0, none⟩ 1 1 (o).cells rfl rfl (newsO' wr o _ (by simp)) (oneO o) (by unfold maxLen; omega) (by omega) (by simp; omega) ?_))
      intro v' w1 hown' hgrow _ hat
      have HO := Hid.mk (OwnO.snoc (L := L ++ pfs ts) (o := o) (by rw [List.length_append]; exact hown'))
      have HK := Hid.mk (GX.out.trans (gx_app hgrow (by simpa using hat)))
      clear hown' hgrow hat
      refine Hid.out ?_
      refine Lib.hid ?_
      go_wp2
      go_ret
      exact ⟨_, rfl, HO.out, HK.out⟩
theorem pf_tree : ∀ t : Tr, PfC t
  | .leaf o => pf_leaf o
  | .pre o a => pf_pre o a (pf_tree a)
  | .bin o a b => pf_bin o a b (pf_tree a) (pf_tree b)
  | .two o a b => by
    intro v sv L B w hq hown hB hlen
    have h1 := pf_tree a
    have h2 := pf_tree b
    cases hq with
    | two _ g c v u _ _ _ hk c1 c2 q1 q2 =>
      refine (pf_call o [a, b] (fun t ht => by simp at ht; rcases ht with rfl | rfl <;> assumption) [v, u] g c 2 rfl (by omega) sv L B w hk (fun j x hx => ?_) (.cons _ _ _ _ q1 (.cons _ _ _ _ q2 .nil)) hown hB (by simp only [Tr.pf, List.length_append, List.length_singleton] at hlen; simp [pfs]; omega)).mono ?_
      · match j, hx with
        | 0, hx => cases hx; exact c1
        | 1, hx => cases hx; exact c2
      · rintro e w' ⟨v', rfl, ho, hg⟩
        exact ⟨v', rfl, by simpa [Tr.pf, pfs] using ho, hg⟩
  | .three o a b d => by
    intro v sv L B w hq hown hB hlen
    have h1 := pf_tree a
    have h2 := pf_tree b
    have h3 := pf_tree d
    cases hq with
    | three _ g c v u x _ _ _ _ hk c1 c2 c3 q1 q2 q3 =>
      refine (pf_call o [a, b, d] (fun t ht => by simp at ht; rcases ht with rfl | rfl | rfl <;> assumption) [v, u, x] g c 3 rfl (by omega) sv L B w hk (fun j x hx => ?_) (.cons _ _ _ _ q1 (.cons _ _ _ _ q2 (.cons _ _ _ _ q3 .nil))) hown hB (by simp only [Tr.pf, List.length_append, List.length_singleton] at hlen; simp [pfs]; omega)).mono ?_
      · match j, hx with
        | 0, hx => cases hx; exact c1
        | 1, hx => cases hx; exact c2
        | 2, hx => cases hx; exact c3
      · rintro e w' ⟨v', rfl, ho, hg⟩
        exact ⟨v', rfl, by simpa [Tr.pf, pfs] using ho, hg⟩

set_option maxHeartbeats 6400000 in
set_option maxRecDepth 1000000 in
theorem postfixI (B b : Nat) (a : Option Addr) (c : Nat) (t : List UInt8) (F i o : Nat) (w : World) (h : PS B b a c t i o 0 w) (ho : o ≤ 2000) (hn : ex (tkT t) F 1 i o 0 ≠ .out) :
    Calls Tryd.prog 52 #[.pointer (some ⟨b, 0, none⟩)] w fun e w' => Res ((ex (tkT t) F 1 i o 0).bnd fun x => .ok (x.1.pf, x.2.1, x.2.2)) (fun x e w' => ∃ v, e = .returned v ∧ OwnO w.heap.size w' v x.1 ∧ PS B b a c t x.2.1 x.2.2 0 w' ∧ x.2.2 ≤ 2000) e w' ∧ w.grownBy w' (some b) := by
  have P0 := Hid.mk h
  have HN := Hid.mk hn
  clear h hn
  go_enter Tryd.func52, Tryd.ntmps52
  go_wp2_with fail
  refine ((allC B b a c t F F (Nat.le_refl _)).ex 1 i o 0 w (Nat.le_refl _) (by omega) P0.out ho (by omega) HN.out).mono ?_
  rintro e w1 ⟨p, g⟩
  cases hr1 : ex (tkT t) F 1 i o 0 with
  | out => rw [hr1] at p; exact p.elim
  | bad cc aa =>
    have HR1 := Hid.mk hr1
    rw [hr1] at p; have p : e = .panicked (flV cc aa) := p; subst p
    exact ⟨rfl, (by simp only [HR1.out, bnd_ok, bnd_bad]; exact rfl), gb_then (World.grownBy.refl _ _) g⟩
  | ok x1 =>
    have HR1 := Hid.mk hr1
    rw [hr1] at p
    obtain ⟨v, rfl, q, p1, hx⟩ := p
    have P1 := Hid.mk p1
    have GG1 := Hid.mk g
    have G1 := Hid.mk (gb_then (World.grownBy.refl _ _) g)
    obtain ⟨TT, uu, rfl⟩ := q.form
    have Q1 := Hid.mk (q.mono (ok' := fun _ => True) (fun _ _ _ => trivial))
    have hpf := (pf_all (tkT t) F).1 _ _ _ _ _ hr1
    clear q
    clear p1 g hr1
    have ON : Hid (OwnO w1.heap.size w1 (.slice none 0 0) []) := World.ownsRow_nil _ _ _ _
    have hlen1 : x1.1.pf.length ≤ 2000 := by omega
    clear hpf
    go_wp2_with fail
    refine (pf_tree x1.1 (.iface TT uu) (.slice none 0 0) [] w1.heap.size w1 Q1.out ON.out (Nat.le_refl _) (by simp; omega)).mono ?_
    rintro e w2 ⟨v2, rfl, o2, g2⟩
    have HB2 : Hid (Below w1.heap.size w1 w2) := ⟨g2.1.os, g2.1.tape, g2.1.output, g2.1.size, fun k hk => g2.1.block k hk (by simp [Value.ownBlock])⟩
    rw [List.nil_append] at o2
    have HO : Hid (OwnO w.heap.size w2 v2 x1.1.pf) := own_base o2 G1.out.size
    have HP := Hid.mk (Px.below P1.out HB2.out)
    clear o2 g2
    go_wp2
    go_ret
    exact ⟨(by simp only [HR1.out, bnd_ok]; exact ⟨_, rfl, HO.out, HP.out, hx⟩), gb_then G1.out (gb_below HB2.out)⟩

end Go.Proofs.YtfoigigbggickaaDoor.Par
