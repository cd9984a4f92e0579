import Derived.Test.YtfoigigbggickaaDoorPq48
import Derived.Test.YtfoigigbggickaaDoorPq49
import Derived.Test.YtfoigigbggickaaDoorPq50
import Derived.Test.YtfoigigbggickaaDoorPq18
import Derived.Test.YtfoigigbggickaaDoorPq17
import Derived.Test.YtfoigigbggickaaDoorPq03
import Derived.Deep.DrawnRows
namespace Go.Proofs.YtfoigigbggickaaDoor.Par
open Go Go.RowKit Go.Proofs.YtfoigigbggickaaDoor.Mem Go.Proofs.YtfoigigbggickaaDoor.Syn Go.Proofs.YtfoigigbggickaaDoor.Parse
set_option linter.unusedVariables false
set_option linter.unusedSimpArgs false

/-- The specification's answer: in rows that can be read. -/
def AnsR (t : List UInt8) (w : World) (e : Ending) (w' : World) : Prop := ∃ iv cs, e = .returned (.agg #[.int .i64 (ansP t).1, .int .i64 ((ansP t).2.1 : Int), iv]) ∧ w'.ownsRow w.heap.size 45 7 iv (ansP t).2.2.length cs ∧ Itr w.heap.size w' cs (ansP t).2.2 ∧ Below w.heap.size w w'
variable {t : List UInt8} {g N c : Nat} {w : World} {pb : Nat} {s : Sg} {v0 v1 iv v5 v6 v7 : Value} {L : List Im} {r : List Value} {wr : World}
/-- What the loop over the items keeps. -/
structure Ep (t : List UInt8) (g N c : Nat) (w : World) (pb : Nat) (s : Sg) (iv : Value) (L : List Im) (wr : World) : Prop where
  m : Mp t g N c w pb s iv L wr
  hi : s.i < N
  ho : s.o ≤ 2000
  hl : L.length ≤ 100
  eq : progP (tkT t) (fuelT t) = (den (tkT t) s).bnd fun i => progL (tkT t) (fuelT t) (101 - L.length) L i s.o
theorem Ep.below {wx : World} (h : Ep t g N c w pb s iv L wr) (hb : Below wr.heap.size wr wx) : Ep t g N c w pb s iv L wx := ⟨h.m.below hb, h.hi, h.ho, h.hl, h.eq⟩
def msr (s : Sg) (L : List Im) : Nat := 2 * (100 - L.length) + (if s.e = 0 then 1 else 0)
def RP (t : List UInt8) (g N c : Nat) (w : World) (pb : Nat) (m : Nat) : Exit → Act → World → Prop
  | .normal, a', wx => ∃ (v0 v1 iv v5 v6 v7 : Value) (r : List Value) (s : Sg) (L : List Im), a' = Fp w pb v0 v1 iv v5 v6 v7 r ∧ r.length = 54 ∧ msr s L < m ∧ Ep t g N c w pb s iv L wx
  | .ret, a', wx => bodyPost Tryd.prog Tryd.f4 (fun e w' => AnsR t w e w') .ret a' wx
  | .exit k, a', wx => k = 0 ∧ ∃ (v0 v1 iv v5 v6 v7 : Value) (r : List Value) (s : Sg) (L : List Im), a' = Fp w pb v0 v1 iv v5 v6 v7 r ∧ r.length = 54 ∧ s.e ≠ 0 ∧ Ep t g N c w pb s iv L wx
  | _, _, _ => False
theorem RP.norm {m : Nat} (hr : r.length = 54) (hm : msr s L < m) (h : Ep t g N c w pb s iv L wr) : RP t g N c w pb m .normal (Fp w pb v0 v1 iv v5 v6 v7 r) wr := ⟨v0, v1, iv, v5, v6, v7, r, s, L, rfl, hr, hm, h⟩
/-- The answer where a text is read to its end. -/
theorem ans_ok (hlen : ¬ 65536 < t.length) {L : List Im} (h : progP (tkT t) (fuelT t) = .ok L) : ansP t = (0, 0, L) := by unfold ansP; rw [if_neg hlen, h]
theorem ans_bad (hlen : ¬ 65536 < t.length) {cc : Int} {aa : Nat} (h : progP (tkT t) (fuelT t) = .bad cc aa) : ansP t = (cc, aa, []) := by unfold ansP; rw [if_neg hlen, h]
theorem retP {ia : Option Addr} {ic : Nat} (hlen : ¬ 65536 < t.length) (E : Ep t g N c w pb s (.slice ia L.length ic) L wr) (h : progP (tkT t) (fuelT t) = .ok L) {m : Nat} {a' : Act} {wx : World}
    (hb : bodyPost Tryd.prog Tryd.f4 (fun e w' => e = .returned (.agg #[.int .i64 0, .int .i64 0, .slice ia L.length ic]) ∧ w' = ((wr.setCell ⟨w.heap.size, 0, none⟩ (.int .i64 0)).setCell ⟨w.heap.size, 1, none⟩ (.int .i64 0)).setCell ⟨w.heap.size, 2, none⟩ (.slice ia L.length ic)) .ret a' wx) : RP t g N c w pb m .ret a' wx := by
  obtain ⟨hd, v, hv, hx, hw⟩ := hb
  refine ⟨hd, v, hv, ?_⟩
  obtain ⟨cs, h1, h2⟩ := E.m.it
  unfold AnsR
  rw [ans_ok hlen h, hw]
  have b0 := E.m.r
  have b1 := blk_set b0 0 (.int .i64 0)
  have b2 := blk_set b1 1 (.int .i64 0)
  refine ⟨_, cs, hx, row_set'' (row_set'' (row_set'' h1 b0 (by decide)) b1 (by decide)) b2 (by decide), h2.keep fun _ _ o => row_set'' (row_set'' (row_set'' o b0 (by decide)) b1 (by decide)) b2 (by decide), ?_⟩
  exact ((E.m.bel.setCell (p := ⟨w.heap.size, 0, none⟩) (Nat.le_refl _) _).setCell (p := ⟨w.heap.size, 1, none⟩) (Nat.le_refl _) _).setCell (p := ⟨w.heap.size, 2, none⟩) (Nat.le_refl _) _
theorem kz_word {x : Tk} (h : Tc x) (hk : kS x = 1) : kndW (wk (wS x)) = kndW x.k ∧ x.k = wk x.n := by
  obtain ⟨hwn, -⟩ := word_of h hk
  have hw : x.k = wk x.n := by
    cases h with
    | word h hk hl => exact hk
    | fin h hk' => exfalso; unfold kS at hk; rcases hk' with e | e | e <;> rw [e] at hk <;> simp at hk
    | num h hk' => exfalso; unfold kS at hk; rw [hk'] at hk; simp at hk
    | sym h h3 h14 => exfalso; rw [(Tc.kS_sym h h3 h14).1] at hk; cases hk
  exact ⟨by rw [hwn, ← hw], hw⟩
theorem kS4 (x : Tk) : kS x = 4 ↔ x.k = 0 := by
  unfold kS
  constructor
  · intro h
    by_cases h0 : x.k = 0
    · exact h0
    · rw [if_neg h0] at h
      split at h; · cases h
      split at h; · cases h
      split at h; · cases h
      split at h <;> cases h
  · intro h; rw [if_pos h]
theorem item_word {x : Tk} (h : Tc x) (h1 : 16 ≤ x.k) (h2 : x.k ≤ 24) : kS x = 1 := by
  cases h with
  | word h hk hl => exact (Tc.kS_word h hk).1
  | fin h hk' => omega
  | num h hk' => omega
  | sym h h3 h14 => omega
theorem ppRound (hr : r.length = 54) (hlen : ¬ 65536 < t.length) (hN : Hid (Nf t N)) (E : Ep t g N c w pb s iv L wr) : Code.wp Tryd.prog zL (RP t g N c w pb (msr s L)) (Fp w pb v0 v1 iv v5 v6 v7 r) wr := by
  have hN5 := hN.out.le
  rw [zL_eq]
  by_cases he : s.e = 0
  rotate_left
  · exact wp_seq (pp5B hr (Hid.mk E.m) he (Hid.mk fun r1 hr1 => wp_exit ⟨rfl, v0, v1, iv, v5, v6, v7, r1, s, L, rfl, hr1, he, E⟩))
  refine wp_seq (pp5A hr (Hid.mk E.m) he (Hid.mk fun r1 hr1 => wp_skip ?_))
  refine wp_block (wp_mono (Q := RP t g N c w pb (msr s L)) ?_ ?_)
  rotate_left
  · intro e a' wx h
    cases e with
    | normal => exact h
    | exit k => obtain ⟨rfl, h⟩ := h; exact ⟨rfl, h⟩
    | goto l => exact h
    | ret => exact h
    | panic ch => exact h
    | outgrown => exact h
  obtain ⟨i, o, e, a⟩ := s
  simp only at he
  subst he
  have hi : i < N := E.hi
  have ho : o ≤ 2000 := E.ho
  have hl := E.hl
  rw [zX_eq]
  obtain ⟨x, hx⟩ : ∃ x, x = tkT t i := ⟨_, rfl⟩
  have hc : Tc x := by rw [hx]; exact tk_cl t i
  refine wp_seq (pp6 hr1 (Hid.mk hx) (Hid.mk E.m.tq) hN5 hi (Hid.mk E.m) (Hid.mk fun r2 bt w2 hr2 hb2 T2 => ?_))
  have E2 := E.below hb2
  have hm0 : msr ⟨i, o, 0, a⟩ L = 2 * (100 - L.length) + 1 := by unfold msr; rw [if_pos rfl]
  by_cases h4 : x.k = 0
  · obtain ⟨ia, ic, rfl⟩ := E2.m.shape
    refine wp_seq (pp7A hr2 (Hid.mk T2) ((kS4 x).2 h4) (Hid.mk fun r3 hr3 => ?_))
    refine pp8 hr3 (Hid.mk E2.m) (Hid.mk fun a' wx h => ?_)
    refine retP (m := 0) hlen E2 ?_ h
    rw [E.eq, den_ok (by rw [← hx]; omega), bnd_ok, show 101 - L.length = (100 - L.length) + 1 by omega, progL, if_pos (by rw [← hx]; exact h4)]
  refine wp_seq (pp7B hr2 (Hid.mk T2) (fun h => h4 ((kS4 x).1 h)) (Hid.mk fun r3 hr3 => wp_skip ?_))
  refine wp_seq (pp9 hr3 (Hid.mk fun r4 hr4 => ?_))
  have key : ∀ r5 : List Value, r5.length = 54 → Code.wp Tryd.prog (sR (sR (sR (sR zX)))) (RP t g N c w pb (msr ⟨i, o, 0, a⟩ L)) (Fp w pb v0 v1 iv (.pointer (some ⟨bt, 0, none⟩)) (.int .i64 (kndW x.k)) v7 r5) w2 := fun r5 hr5 => by
    by_cases hk : 16 ≤ x.k ∧ x.k ≤ 24
    · have hkz : kndW x.k = ((x.k - 15 : Nat) : Int) := by unfold kndW; rw [if_pos hk]; omega
      rw [hkz]
      refine pp12B hr5 (by omega) (Hid.mk fun r6 hr6 => ?_)
      obtain ⟨ia, ic, rfl⟩ := E2.m.shape
      by_cases h100 : L.length = 100
      · refine pp14A hr6 h100 (Hid.mk fun r7 hr7 => ?_)
        refine pp15 hr7 (Hid.mk E2.m.tq) hN5 hi (Hid.mk E2.m) (Hid.mk fun r8 s' wx hr8 hs' M8 => ?_)
        have h50 : (tkT t i).k < 50 := by rw [← hx]; omega
        refine RP.norm hr8 ?_ ⟨M8, by rw [hs']; exact hi, by rw [hs']; exact ho, hl, ?_⟩
        · rw [hm0, hs']; unfold msr; rw [if_neg (fcode_ne (by decide) _)]; omega
        · rw [E.eq, hs']
          refine (den_fail (by decide) (tk_le t i) fun _ => ?_).symm
          rw [show 101 - L.length = (100 - L.length) + 1 by omega, progL, if_neg (by rw [← hx]; exact h4), if_pos (by rw [← hx]; exact hk), if_pos h100]
      · refine pp14B hr6 h100 (Hid.mk fun r7 hr7 => ?_)
        show Code.wp _ zI _ _ _
        rw [zI_eq]
        refine wp_seq (pp16 hr7 (Hid.mk E2.m) (Hid.mk fun r8 bi w8 hr8 hb8 hq1 hq2 hq3 hq4 B8 => ?_))
        have E8 := E2.below hb8
        refine wp_seq (pp17 (K := x.k - 15) hr8 (Hid.mk B8) (Hid.mk E8.m.tq) hN hi rfl ho (by show (tkT t i).k = _; rw [← hx]; omega) (by omega) (by omega) hq2 hq3 hq4 (E2.m.far hq1) (Hid.mk E8.m) (Hid.mk fun r9 s' im ea en ec fa fn fc w9 hr9 hi9 ho9 hd9 hE9 hF9 M9 B9 => ?_))
        refine pp18 hr9 (Hid.mk B9) (Hid.mk M9) hl (Hid.mk hE9) (Hid.mk hF9) (Hid.mk fun r10 iv' w10 hr10 M10 => ?_)
        refine RP.norm hr10 ?_ ⟨M10, hi9, ho9, by simp; omega, ?_⟩
        · rw [hm0]; unfold msr; simp; split <;> omega
        · rw [E.eq, den_ok (by rw [← hx]; omega), bnd_ok, show 101 - L.length = (100 - L.length) + 1 by omega, progL, if_neg (by rw [← hx]; exact h4), if_pos (by rw [← hx]; exact hk), if_neg h100, ← hd9, bnd_assoc']
          rw [show 101 - (L ++ [im]).length = 100 - L.length by simp]
          rfl
    · have hkz : kndW x.k = 0 := by unfold kndW; rw [if_neg hk]
      refine pp12A hr5 hkz (Hid.mk fun r6 hr6 => ?_)
      refine pp13 hr6 (Hid.mk E2.m.tq) hN5 hi (Hid.mk E2.m) (Hid.mk fun r8 s' wx hr8 hs' M8 => ?_)
      refine RP.norm hr8 ?_ ⟨M8, by rw [hs']; exact hi, by rw [hs']; exact ho, hl, ?_⟩
      · rw [hm0, hs']; unfold msr; rw [if_neg (fcode_ne (by decide) _)]; omega
      · rw [E.eq, hs']
        refine (den_fail (by decide) (tk_le t i) fun _ => ?_).symm
        rw [show 101 - L.length = (100 - L.length) + 1 by omega, progL, if_neg (by rw [← hx]; exact h4), if_neg (by rw [← hx]; exact hk)]
  by_cases hk1 : kS x = 1
  · refine wp_seq (pp10A hr4 (Hid.mk T2) hk1 (Hid.mk fun r5 hr5 => ?_))
    rw [(kz_word hc hk1).1]
    exact key r5 hr5
  · refine wp_seq (pp10B hr4 (Hid.mk T2) hk1 (Hid.mk fun r5 hr5 => ?_))
    have := key r5 hr5
    rw [show kndW x.k = 0 by unfold kndW; rw [if_neg (fun h => hk1 (item_word hc h.1 h.2))]] at this
    exact this
theorem frame4 (v : Value) : (#[v] ++ Array.replicate (Tryd.f4.ntmps - (#[v] : Array Value).size) undef) = (v :: List.replicate 61 undef).toArray := frameN v 61
theorem parseProgS (a : Option Addr) (t : List UInt8) (n c : Nat) (w : World) (hn : n = t.length) (ht : Txt w.heap.size w (.slice a n c) t) :
    Calls Tryd.prog 4 #[.slice a n c] w fun e w' => AnsR t w e w' := by
  refine calls_of_wp Tryd.func4 (c := z0) rfl ?_
  rw [frame4, z0_eq]
  by_cases hbig : 65536 < n
  · refine ppLong List.length_replicate hbig (Hid.mk fun a' wx h => ?_)
    obtain ⟨hd, v, hv, hx, hw⟩ := h
    refine ⟨hd, v, hv, ?_⟩
    have hA : ansP t = (1, 0, []) := by unfold ansP; rw [if_pos (by omega)]
    unfold AnsR
    rw [hA, hw]
    exact ⟨_, [], hx, World.ownsRow_nil _ _ _ _, .nil, below_alloc' (Below.refl _ _) _⟩
  refine ppShort List.length_replicate hbig (Hid.mk fun v1 r hr => ?_)
  have hlen : ¬ 65536 < t.length := by omega
  refine ppLex hr (by omega) hn ht (Hid.mk fun g N c' pb v0 v1 iv v5 v6 v7 r wx hr hN5 hN M => ?_)
  have HN := Hid.mk hN
  have E0 : Ep t g N c' w pb ⟨0, 0, 0, 0⟩ iv [] wx := by
    refine ⟨M, hN.pos, by simp, by simp, ?_⟩
    unfold progP den
    simp only [ne_eq, not_true_eq_false, if_false]
    split
    · rfl
    split
    · rfl
    · rfl
  refine wp_seq (wp_block ?_)
  refine wp_loop_ghost (fun n a' wx => ∃ (v0 v1 iv v5 v6 v7 : Value) (r : List Value) (s : Sg) (L : List Im), a' = Fp w pb v0 v1 iv v5 v6 v7 r ∧ r.length = 54 ∧ n = msr s L ∧ Ep t g N c' w pb s iv L wx) (msr ⟨0, 0, 0, 0⟩ []) ⟨v0, v1, iv, v5, v6, v7, r, _, [], rfl, hr, rfl, E0⟩ ?_
  rintro n a' wx ⟨v0, v1, iv, v5, v6, v7, r, s, L, rfl, hr, rfl, E⟩
  refine wp_mono (ppRound hr hlen HN E) ?_
  intro e a'' wy h
  cases e with
  | normal =>
    obtain ⟨v0, v1, iv, v5, v6, v7, r, s', L', rfl, hr, hm, E'⟩ := h
    exact ⟨_, hm, v0, v1, iv, v5, v6, v7, r, s', L', rfl, hr, rfl, E'⟩
  | ret => exact h
  | exit id =>
    obtain ⟨rfl, v0, v1, iv, v5, v6, v7, r, s', L', rfl, hr, he, E'⟩ := h
    show Code.wp _ (sR (sR (sR (sR (sR z0))))) _ _ _
    refine pp19 hr (Hid.mk E'.m) (Hid.mk fun a' wx h => ?_)
    obtain ⟨hd, v, hv, hx, hw⟩ := h
    refine ⟨hd, v, hv, ?_⟩
    have hA := ans_bad hlen (by rw [E'.eq, show den (tkT t) s' = .bad s'.e s'.a from den_bad he, bnd_bad])
    unfold AnsR
    rw [hA, hw]
    refine ⟨_, [], hx, World.ownsRow_nil _ _ _ _, .nil, ?_⟩
    exact ((E'.m.bel.setCell (p := ⟨w.heap.size, 0, none⟩) (Nat.le_refl _) _).setCell (p := ⟨w.heap.size, 1, none⟩) (Nat.le_refl _) _).setCell (p := ⟨w.heap.size, 2, none⟩) (Nat.le_refl _) _
  | goto l => exact False.elim h
  | panic ch => exact False.elim h
  | outgrown => exact False.elim h
end Go.Proofs.YtfoigigbggickaaDoor.Par
namespace Go.Proofs.YtfoigigbggickaaDoor.Par
open Go Go.RowKit Go.Proofs.YtfoigigbggickaaDoor.Mem Go.Proofs.YtfoigigbggickaaDoor.Syn Go.Proofs.YtfoigigbggickaaDoor.Parse
set_option linter.unusedVariables false
set_option linter.unusedSimpArgs false

def poD : Po := ⟨0, 0, []⟩
def imD : Im := ⟨0, [], [], [], 0, 0, 0⟩
def itOf (im : Im) : It := ⟨im.k, im.n, im.E.length, im.F.length, fun j => im.E.getD j poD, fun j => im.F.getD j poD, im.K, im.lo, im.hi⟩
def prOf (L : List Im) : Pr := ⟨L.length, fun i => itOf (L.getD i imD)⟩
theorem opCs_at (L : List Po) : ∀ (j q : Nat), j < L.length → q < 3 → (opCs L)[j * 3 + q]? = (L.getD j poD).cells[q]? := by
  induction L with
  | nil => intro j q hj; simp at hj
  | cons o r ih =>
    intro j q hj hq
    have e : opCs (o :: r) = o.cells ++ opCs r := by unfold opCs; simp
    rw [e]
    have hl : o.cells.length = 3 := rfl
    cases j with
    | zero => rw [List.getElem?_append_left (by rw [hl]; omega)]; simp
    | succ j =>
      rw [List.getElem?_append_right (by rw [hl]; omega), hl, show (j + 1) * 3 + q - 3 = j * 3 + q by omega, ih j q (by simpa using hj) hq]
      simp
/-- A row of Ops as a slice. -/
theorem OwnO.at' {B : Nat} {w : World} {v : Value} {L : List Po} (h : OwnO B w v L) : ∃ a c, v = .slice a L.length c ∧ SliceAt w a L.length 3 (fun j => (L.getD j poD).cells) := by
  obtain ⟨a, c, rfl⟩ := oshape h
  refine ⟨a, c, rfl, ?_⟩
  rcases h.2 with ⟨h1, h2⟩ | ⟨g, cap, cur, h1, h2, h3, h4⟩
  · exact Or.inl h2
  · injection h1 with e1 _ _
    refine Or.inr ⟨g, 0, e1, fun i hi j u hu => ?_⟩
    have hj : j < 3 := by
      rcases Nat.lt_or_ge j 3 with e | e
      · exact e
      · rw [List.getElem?_eq_none (by show (Po.cells _).length ≤ j; exact e)] at hu; cases hu
    rw [e1] at h
    have := World.ownsRow.cellAt h (i * 3 + j) (by omega)
    rw [show (0 + i * 3) + j = i * 3 + j by omega, this, opCs_at L i j hi hj]
    exact hu
theorem Its.itr {w : World} {s e : Nat} {cs : List Value} {L : List Im} (h : Its w s e cs L) : Itr s w cs L := by
  induction h with
  | nil => exact .nil
  | snoc e e' cs L im vE vF m h hi hb hm ih => exact .snoc cs L im vE vF ih (hi.e.lo h.le) (hi.f.lo (Nat.le_trans h.le hi.sm))
theorem Itr.len {B : Nat} {w : World} {cs : List Value} {L : List Im} (h : Itr B w cs L) : cs.length = L.length * 7 := by
  induction h with
  | nil => rfl
  | snoc cs L im vE vF h hE hF ih => rw [List.length_append, List.length_append, ih]; simp [itC]; omega
/-- The items' places. -/
theorem Itr.lo {B : Nat} {w : World} {cs : List Value} {L : List Im} (h : Itr B w cs L) : ∃ lo : Nat → Lo, (∀ i, i < L.length → ∀ q, q < 7 → cs[i * 7 + q]? = ((itOf (L.getD i imD)).cells (lo i))[q]?) ∧ (∀ i, i < L.length → SliceAt w (lo i).aE (L.getD i imD).E.length 3 (fun j => ((L.getD i imD).E.getD j poD).cells)) ∧ ∀ i, i < L.length → SliceAt w (lo i).aF (L.getD i imD).F.length 3 (fun j => ((L.getD i imD).F.getD j poD).cells) := by
  induction h with
  | nil => exact ⟨fun _ => ⟨none, none, 0, 0⟩, fun i hi => by simp at hi, fun i hi => by simp at hi, fun i hi => by simp at hi⟩
  | snoc cs L im vE vF h hE hF ih =>
    obtain ⟨lo, h1, h2, h3⟩ := ih
    obtain ⟨aE, cE, rfl, sE⟩ := hE.at'
    obtain ⟨aF, cF, rfl, sF⟩ := hF.at'
    have hlen := h.len
    have hold : ∀ i, i < L.length → (L ++ [im]).getD i imD = L.getD i imD := fun i hi => by simp [List.getElem?_append_left hi]
    have hnew : (L ++ [im]).getD L.length imD = im := by simp
    refine ⟨fun i => if i < L.length then lo i else ⟨aE, aF, cE, cF⟩, ?_, ?_, ?_⟩
    · intro i hi q hq
      rcases Nat.lt_or_ge i L.length with hi2 | hi2
      · rw [List.getElem?_append_left (by rw [hlen]; omega), h1 i hi2 q hq, hold i hi2]; simp only [if_pos hi2]
      · have : i = L.length := by simp at hi; omega
        subst this
        rw [List.getElem?_append_right (by rw [hlen]; omega), hlen, show L.length * 7 + q - L.length * 7 = q by omega, hnew]
        simp only [Nat.lt_irrefl, if_false]
        rfl
    · intro i hi
      rcases Nat.lt_or_ge i L.length with hi2 | hi2
      · rw [hold i hi2]; simp only [if_pos hi2]; exact h2 i hi2
      · have : i = L.length := by simp at hi; omega
        subst this
        rw [hnew]; simp only [Nat.lt_irrefl, if_false]; exact sE
    · intro i hi
      rcases Nat.lt_or_ge i L.length with hi2 | hi2
      · rw [hold i hi2]; simp only [if_pos hi2]; exact h3 i hi2
      · have : i = L.length := by simp at hi; omega
        subst this
        rw [hnew]; simp only [Nat.lt_irrefl, if_false]; exact sF
theorem pr_at {B : Nat} {w : World} {iv : Value} {cs : List Value} {L : List Im} (h : w.ownsRow B 45 7 iv L.length cs) (hi : Itr B w cs L) : ∃ a c lo, iv = .slice a L.length c ∧ PrAt w a (prOf L) lo := by
  obtain ⟨a, c, rfl, -⟩ := row_shape h
  obtain ⟨lo, h1, h2, h3⟩ := hi.lo
  refine ⟨a, c, lo, rfl, ?_, h2, h3⟩
  rcases h.2 with ⟨e1, e2⟩ | ⟨g, cap, cur, e1, e2, e3, e4⟩
  · exact Or.inl e2
  · injection e1 with e1 _ _
    refine Or.inr ⟨g, 0, e1, fun i hi j u hu => ?_⟩
    have hi : i < L.length := hi
    have hj : j < 7 := by
      rcases Nat.lt_or_ge j 7 with e | e
      · exact e
      · rw [List.getElem?_eq_none (by rw [It.len]; exact e)] at hu; cases hu
    rw [e1] at h
    rw [show (0 + i * 7) + j = i * 7 + j by omega, World.ownsRow.cellAt h (i * 7 + j) (by omega), h1 i hi j hj]
    exact hu
end Go.Proofs.YtfoigigbggickaaDoor.Par
namespace Go.Proofs.YtfoigigbggickaaDoor.Par
open Go Go.RowKit Go.Proofs.YtfoigigbggickaaDoor.Mem Go.Proofs.YtfoigigbggickaaDoor.Syn Go.Proofs.YtfoigigbggickaaDoor.Parse
set_option linter.unusedVariables false
set_option linter.unusedSimpArgs false

/-- A row of n Ops in a block of its own between two bounds. -/
def RowAt (w : World) (a : Option Addr) (n lo hi : Nat) : Prop := n = 0 ∨ ∃ r C, a = some ⟨r, 0, none⟩ ∧ lo ≤ r ∧ r < hi ∧ w.heap[r]? = some (.cells C 82) ∧ n * 3 ≤ C.size
theorem OwnO.row {B hi : Nat} {w : World} {v : Value} {L : List Po} (h : OwnO B w v L) (hb : ∀ g, v.ownBlock = some g → g < hi) : ∃ a c, v = .slice a L.length c ∧ RowAt w a L.length B hi := by
  obtain ⟨a, c, rfl⟩ := oshape h
  refine ⟨a, c, rfl, ?_⟩
  rcases h.2 with ⟨h1, h2⟩ | ⟨g, cap, cur, h1, h2, h3, h4, h5, h6, h7⟩
  · exact Or.inl h2
  · injection h1 with e1 _ _
    refine Or.inr ⟨g, cur, e1, h2, hb g (by rw [e1]; rfl), h3, ?_⟩
    rw [h6]; exact Nat.mul_le_mul_right 3 h4
/-- The items' places, each row in a block between bounds that rise. -/
theorem Its.lay {w : World} {s e : Nat} {cs : List Value} {L : List Im} (h : Its w s e cs L) : ∃ (lo : Nat → Lo) (x y : Nat → Nat), x 0 = s ∧ x L.length = e ∧ (∀ i, i < L.length → x i ≤ y i ∧ y i ≤ x (i + 1)) ∧ (∀ i, i < L.length → ∀ q, q < 7 → cs[i * 7 + q]? = ((itOf (L.getD i imD)).cells (lo i))[q]?) ∧ (∀ i, i < L.length → RowAt w (lo i).aE (L.getD i imD).E.length (x i) (y i) ∧ RowAt w (lo i).aF (L.getD i imD).F.length (y i) (x (i + 1))) := by
  induction h with
  | nil => exact ⟨fun _ => ⟨none, none, 0, 0⟩, fun _ => s, fun _ => s, rfl, rfl, fun i hi => by simp at hi, fun i hi => by simp at hi, fun i hi => by simp at hi⟩
  | snoc e e' cs L im vE vF m h hi hb hm ih =>
    obtain ⟨lo, x, y, h0, hE, h1, h2, h3⟩ := ih
    obtain ⟨aE, cE, rfl, sE⟩ := hi.e.row hi.eb
    obtain ⟨aF, cF, rfl, sF⟩ := hi.f.row hb
    have hlen := h.itr.len
    have hold : ∀ i, i < L.length → (L ++ [im]).getD i imD = L.getD i imD := fun i hi => by simp [List.getElem?_append_left hi]
    have hnew : (L ++ [im]).getD L.length imD = im := by simp
    refine ⟨fun i => if i < L.length then lo i else ⟨aE, aF, cE, cF⟩, fun i => if i ≤ L.length then x i else e', fun i => if i < L.length then y i else m, by simp [h0], by simp; intro h; omega, ?_, ?_, ?_⟩
    · intro i hi'
      simp only [List.length_append, List.length_singleton] at hi'
      rcases Nat.lt_or_ge i L.length with h4 | h4
      · simp only [if_pos (Nat.le_of_lt h4), if_pos h4, if_pos (show i + 1 ≤ L.length from h4)]; exact h1 i h4
      · have : i = L.length := by omega
        subst this
        simp only [Nat.le_refl, if_true, Nat.lt_irrefl, if_false, if_neg (show ¬ L.length + 1 ≤ L.length by omega)]
        rw [hE]; exact ⟨hi.sm, hm⟩
    · intro i hi' q hq
      simp only [List.length_append, List.length_singleton] at hi'
      rcases Nat.lt_or_ge i L.length with hi2 | hi2
      · rw [List.getElem?_append_left (by rw [hlen]; omega), h2 i hi2 q hq, hold i hi2]; simp only [if_pos hi2]
      · have : i = L.length := by omega
        subst this
        rw [List.getElem?_append_right (by rw [hlen]; omega), hlen, show L.length * 7 + q - L.length * 7 = q by omega, hnew]
        simp only [Nat.lt_irrefl, if_false]
        rfl
    · intro i hi'
      simp only [List.length_append, List.length_singleton] at hi'
      rcases Nat.lt_or_ge i L.length with hi2 | hi2
      · rw [hold i hi2]; simp only [if_pos (Nat.le_of_lt hi2), if_pos hi2, if_pos (show i + 1 ≤ L.length from hi2)]; exact h3 i hi2
      · have : i = L.length := by omega
        subst this
        rw [hnew]; simp only [Nat.le_refl, if_true, Nat.lt_irrefl, if_false, if_neg (show ¬ L.length + 1 ≤ L.length by omega)]
        rw [hE]; exact ⟨sE, sF⟩
end Go.Proofs.YtfoigigbggickaaDoor.Par
namespace Go.Proofs.YtfoigigbggickaaDoor.MarksB
open Go Go.RowKit Go.Proofs.YtfoigigbggickaaDoor.Mem
set_option linter.unusedVariables false
set_option linter.unusedSimpArgs false
attribute [local go_sem ↓] Go.wp_at_zero Go.wp_at_succ

/-- A mark's digits. -/
def mtD (q : Nat) (t : ByteArray) : ByteArray := if h : q = 0 then t else mtD (q / 10) (⟨#[UInt8.ofNat (48 + q % 10)]⟩ ++ t)
termination_by q
decreasing_by omega
/-- A mark's text. -/
def mT (k : Nat) : ByteArray := if k = 0 then ⟨#[109, 48]⟩ else ⟨#[109]⟩ ++ mtD k ⟨#[]⟩
set_option maxHeartbeats 3200000 in
set_option maxRecDepth 100000 in
theorem markTextE (k : Nat) (w : World) (h1 : k ≤ 100000000) : Calls Tryd.prog 58 #[.int .i64 (k : Int)] w fun e w' => e = .returned (.string (mT k)) ∧ Below w.heap.size w w' := by
  by_cases hz : k = 0
  · subst hz
    have : mT 0 = ⟨#[109, 48]⟩ := rfl
    rw [this]
    go_enter Tryd.func58, Tryd.ntmps58
    go_wp2
    go_ret
    exact ⟨rfl, by go_grown⟩
  have HM : Hid (mT k = ⟨#[109]⟩ ++ mtD k ⟨#[]⟩) := by unfold Hid mT; rw [if_neg hz]
  have hk0 : ¬ (k : Int) ≤ 0 := by omega
  have hk1 : decide ((k : Int) ≤ 0) = false := by simp; omega
  clear hz
  go_enter Tryd.func58, Tryd.ntmps58
  go_wp2
  go_loopw [0, 3] (fun kk s wr => ∃ (q : Nat) (t : ByteArray), kk = .int .i64 (q : Int) ∧ s = .string t ∧ q + t.size ≤ 100000000 ∧ Hid (mtD q t = mtD k ⟨#[]⟩) ∧ Hid (Below w.heap.size w wr)) (fun kk _ _ => (intOf kk).toNat)
  case atStart => exact ⟨k, _, rfl, rfl, by show k + 0 ≤ 100000000; omega, rfl, by unfold Hid; go_grown⟩
  case round =>
    obtain ⟨q, t, rfl, rfl, q1, hm, hb⟩ := hrel
    by_cases hq : 0 < q
    · have hq' : (0 : Int) < (q : Int) := by omega
      obtain ⟨d, hd0⟩ : ∃ d : UInt8, d = UInt8.ofNat (48 + q % 10) := ⟨_, rfl⟩
      have hd : ((d.toNat : Nat) : Int) = 48 + (q : Int) % 10 := by
        have : (UInt8.ofNat (48 + q % 10)).toNat = 48 + q % 10 := by
          rw [UInt8.toNat_ofNat']
          exact Nat.mod_eq_of_lt (by omega)
        rw [hd0, this]
        omega
      have hm2 : Hid (mtD (q / 10) (⟨#[d]⟩ ++ t) = mtD k ⟨#[]⟩) := by unfold Hid; rw [← hm.out, mtD.eq_1 q t, dif_neg (by omega), hd0]
      have cb : (convert 22 9 (.slice (some ⟨wr.heap.size, 0, none⟩) 1 1)).run Tryd.prog (wr.alloc (.cells #[.int .u8 (48 + (q : Int) % 10)] 5)) = .ok (.string ⟨#[d]⟩) (wr.alloc (.cells #[.int .u8 (48 + (q : Int) % 10)] 5)) :=
        run_convert_bytes_back (P := Tryd.prog) (wr.alloc (.cells #[.int .u8 (48 + (q : Int) % 10)] 5)) 22 9 5 ⟨wr.heap.size, 0, none⟩ 1 [d] Tryd.underlying22 Tryd.underlying5 Tryd.underlying9 (fun j hj => by
          have h0 : j = 0 := by simpa using hj
          subst h0
          rw [Addr.add_mid, blk_cell (blk_new wr _) (0 + 0)]
          simp only [List.getElem_cons_zero, hd]
          rfl)
      clear hd hd0 hm
      have sz : ((⟨#[d]⟩ : ByteArray) ++ t).size = 1 + t.size := by rw [ByteArray.size_append]; rfl
      go_wp2
      exact ⟨⟨q / 10, _, by go_num, rfl, by rw [sz]; omega, hm2, by unfold Hid; exact below_alloc' hb.out _⟩, by simp [intOf]; omega⟩
    · have hz : q = 0 := by omega
      subst hz
      have he : Hid (t = mtD k ⟨#[]⟩) := by unfold Hid; rw [← hm.out, mtD.eq_1 0 t, dif_pos rfl]
      clear hm
      go_wp2
      go_ret
      exact ⟨by rw [HM.out, ← he.out]; rfl, hb.out⟩
end Go.Proofs.YtfoigigbggickaaDoor.MarksB
namespace Go.Proofs.YtfoigigbggickaaDoor.Parse
open Go Go.RowKit Go.Proofs.YtfoigigbggickaaDoor.Mem
set_option linter.unusedVariables false
set_option linter.unusedSimpArgs false
attribute [local go_sem ↓] Go.wp_at_zero Go.wp_at_succ

set_option maxHeartbeats 1600000 in
set_option maxRecDepth 100000 in
/-- A copy of a text, in memory of its own. -/
theorem toByteS (a : Option Addr) (t : List UInt8) (n c : Nat) (w : World) (hn : n = t.length) (hr : Rd w a t) (hl : n ≤ 1048576) :
    Calls Tryd.prog 5 #[.slice a n c] w fun e w' => e = .returned (.slice (some ⟨w.heap.size, 0, none⟩) n n) ∧ Below w.heap.size w w' ∧ w'.there w.heap.size 0 n ∧ Rd w' (some ⟨w.heap.size, 0, none⟩) t ∧ w.heap.size < w'.heap.size := by
  have HN := Hid.mk hn
  have HR := Hid.mk hr
  clear hn hr
  have hmk := run_make_n (P := Tryd.prog) 22 5 _ 1 1 Tryd.underlying22 infoB n hl (by omega)
  go_enter Tryd.func5, Tryd.ntmps5
  go_wp2
  clear hmk
  go_loopw [4] (fun i wr => ∃ k : Nat, k ≤ n ∧ i = .int .i64 k ∧ Hid (Below w.heap.size w wr) ∧ Hid (wr.there w.heap.size 0 n) ∧ Hid (∀ j (h : j < t.length), j < k → wr.cell? ⟨w.heap.size, j, none⟩ = some (.int .u8 (t[j].toNat : Int))) ∧ Hid (w.heap.size < wr.heap.size)) (fun i _ => n - (intOf i).toNat)
  case atStart => exact ⟨0, Nat.zero_le _, rfl, (Below.refl _ _).alloc (Nat.le_refl _) _, there_make w #[.int .u8 0] 5 n, fun j _ hj => absurd hj (Nat.not_lt_zero _), by simp [Hid]⟩
  case round =>
    obtain ⟨k, hk, rfl, hb, ht, hf, hsz⟩ := hrel
    by_cases hlt : k < n
    · have hkl : k < t.length := by rw [← HN.out]; exact hlt
      obtain ⟨g, o, rfl, y1⟩ := (HR.out.below hb.out) k hkl
      obtain ⟨q, hq⟩ : ∃ q, q = t[k].toNat := ⟨_, rfl⟩
      rw [← hq] at y1
      have HQ := Hid.mk hq
      obtain ⟨c1, c2⟩ := ht.out k hlt
      obtain ⟨u, c1'⟩ := Option.isSome_iff_exists.1 c1
      rw [Nat.zero_add] at c1' c2
      clear hq c1
      go_wp2
      refine ⟨⟨k + 1, by omega, by go_num, hb.out.setCell (p := ⟨w.heap.size, k, none⟩) (Nat.le_refl _) _, World.there_setCells (w := wr) ht.out w.heap.size k [.int .u8 (q : Int)], fun j hjl hj => ?_, ?_⟩, by simp [intOf]; omega⟩
      · by_cases e : j = k
        · subst e
          rw [← HQ.out]
          exact World.cell?_setCell_same _ _ _ c1'
        · rw [World.cell?_setCell_other _ _ _ _ (by intro h; injection h; omega)]
          exact hf.out j hjl (by omega)
      · show w.heap.size < (wr.setCell ⟨w.heap.size, k, none⟩ (.int .u8 (q : Int))).heap.size
        rw [size_set]; exact hsz.out
    · obtain rfl : k = n := by omega
      go_wp2
      go_ret
      exact ⟨rfl, hb.out, ht.out, fun j hj => ⟨w.heap.size, 0, rfl, by rw [Nat.zero_add]; exact hf.out j hj (by rw [HN.out]; exact hj)⟩, hsz.out⟩
end Go.Proofs.YtfoigigbggickaaDoor.Parse
namespace Go.Proofs.YtfoigigbggickaaDoor.Parse
open Go Go.RowKit Go.Proofs.YtfoigigbggickaaDoor.Mem
set_option linter.unusedVariables false
set_option linter.unusedSimpArgs false
attribute [local go_sem ↓] Go.wp_at_zero Go.wp_at_succ

theorem gset (w : World) (b o : Nat) (u : Value) : w.grownBy (w.setCell ⟨b, o, none⟩ u) (some b) :=
  ⟨rfl, rfl, rfl, by simp [World.setCell], fun k _ hne => Below.heap_setCell _ _ _ _ (fun e => hne (by rw [e]))⟩
set_option maxHeartbeats 3200000 in
set_option maxRecDepth 100000 in
theorem markBytesP (g n c : Nat) (k : Int) (w : World) (ht : w.there g 0 n) (hl : n ≤ 1048576) (h0 : 0 ≤ k) (h1 : k ≤ 100000000) :
    Calls Tryd.prog 9 #[.slice (some ⟨g, 0, none⟩) n c, .int .i64 k] w fun e w' => e = .returned (.int .i64 (k + n)) ∧ w.grownBy w' (some g) := by
  have HT := Hid.mk ht
  clear ht
  go_enter Tryd.func9, Tryd.ntmps9
  go_wp2
  go_loopw [1, 5] (fun kk i wr => ∃ j : Nat, j ≤ n ∧ i = .int .i64 j ∧ kk = .int .i64 (k + j) ∧ Hid (wr.there g 0 n) ∧ Hid (w.grownBy wr (some g))) (fun _ i _ => n - (intOf i).toNat)
  case atStart => exact ⟨0, Nat.zero_le _, rfl, by simp, HT, World.grownBy.refl _ _⟩
  case round =>
    obtain ⟨j, hj, rfl, rfl, ht, hg⟩ := hrel
    by_cases hlt : j < n
    · obtain ⟨c1, c2⟩ := ht.out j hlt
      obtain ⟨u, c1⟩ := Option.isSome_iff_exists.1 c1
      rw [Nat.zero_add] at c1 c2
      go_wp2
      exact ⟨⟨j + 1, by omega, by go_num, by congr 1; omega, World.there_setCells (w := wr) ht.out g j [_], hg.out.trans (gset _ _ _ _)⟩, by simp [intOf]; omega⟩
    · have hkn : j = n := by omega
      subst hkn
      go_wp2
      go_ret
      exact ⟨rfl, hg.out⟩

set_option maxHeartbeats 3200000 in
set_option maxRecDepth 100000 in
theorem eqBytesP (a b : Option Addr) (bs : List UInt8) (n c d : Nat) (w : World) (hn : n = bs.length) (ha : Rd w a bs) (hb : Rd w b bs) (hl : n ≤ 100000000) :
    Calls Tryd.prog 8 #[.slice a n c, .slice b n d] w fun e w' => e = .returned (.bool true) ∧ Below w.heap.size w w' := by
  have HN := Hid.mk hn
  have HA := Hid.mk ha
  have HB := Hid.mk hb
  clear hn ha hb
  go_enter Tryd.func8, Tryd.ntmps8
  go_wp2
  go_loopw [5] (fun i wr => ∃ j : Nat, j ≤ n ∧ i = .int .i64 j ∧ ∃ m, wr = w.drewN m) (fun i _ => n - (intOf i).toNat)
  case atStart => exact ⟨0, Nat.zero_le _, rfl, 0, rfl⟩
  case round =>
    obtain ⟨j, hj, rfl, m, rfl⟩ := hrel
    by_cases hlt : j < n
    · have hjl : j < bs.length := by rw [← HN.out]; exact hlt
      obtain ⟨g, o, rfl, e1⟩ := HA.out j hjl
      obtain ⟨g', o', rfl, e2⟩ := HB.out j hjl
      go_wp2_with fail
      go_quiet (fail)
      go_wp2
      exact ⟨⟨j + 1, by omega, by go_num, _, rfl⟩, by simp [intOf]; omega⟩
    · go_wp2
      go_ret
      exact ⟨rfl, below_drewN' (Below.refl _ _) m⟩

end Go.Proofs.YtfoigigbggickaaDoor.Parse
namespace Go.Proofs.YtfoigigbggickaaDoor.MarksB
open Go Go.RowKit Go.Proofs.YtfoigigbggickaaDoor.Mem Go.Proofs.YtfoigigbggickaaDoor.Parse
set_option linter.unusedVariables false
set_option linter.unusedSimpArgs false
attribute [local go_sem ↓] Go.wp_at_zero Go.wp_at_succ

theorem markTextI (z : Int) (w : World) (h0 : 0 ≤ z) (h1 : z ≤ 100000000) : Calls Tryd.prog 58 #[.int .i64 z] w fun e w' => e = .returned (.string (mT z.toNat)) ∧ Below w.heap.size w w' := by
  have := markTextE z.toNat w (by omega)
  rw [show ((z.toNat : Nat) : Int) = z by omega] at this
  exact this
/-- A block whose first m cells are filled. -/
def MV (w : World) (g : Nat) (T : TypeId) (N m : Nat) (f : Nat → Value) : Prop := ∃ C, w.heap[g]? = some (.cells C T) ∧ N ≤ C.size ∧ ∀ x, x < m → C[x]? = some (f x)
theorem MV.step {w : World} {g N m : Nat} {T : TypeId} {f : Nat → Value} {v : Value} (h : MV w g T N m f) (hm : m < N) (hv : v = f m) : MV (w.setCell ⟨g, m, none⟩ v) g T N (m + 1) f := by
  obtain ⟨C, h1, h2, h3⟩ := h
  refine ⟨_, blk_set h1 m v, by simpa using h2, fun x hx => ?_⟩
  rw [Array.getElem?_setIfInBounds]
  by_cases e : m = x
  · subst e
    rw [if_pos rfl, if_pos (by omega), hv]
  · rw [if_neg e]
    exact h3 x (by omega)
theorem MV.cell {w : World} {g N m : Nat} {T : TypeId} {f : Nat → Value} (h : MV w g T N m f) (x : Nat) (hx : x < N) : (∃ v, w.cell? ⟨g, x, none⟩ = some v) ∧ w.frozen? ⟨g, x, none⟩ = false := by
  obtain ⟨C, h1, h2, h3⟩ := h
  exact ⟨⟨C[x], by rw [blk_cell h1 x]; exact Array.getElem?_eq_getElem (by omega)⟩, blk_unfrozen h1 x⟩
theorem MV.val {w : World} {g N m : Nat} {T : TypeId} {f : Nat → Value} (h : MV w g T N m f) (x : Nat) (hx : x < m) {v : Value} (hv : v = f x) : w.cell? ⟨g, x, none⟩ = some v := by
  obtain ⟨C, h1, h2, h3⟩ := h
  rw [blk_cell h1 x, hv]; exact h3 x hx
theorem MV.below {w w' : World} {g N m : Nat} {T : TypeId} {f : Nat → Value} (h : MV w g T N m f) (hb : Below w.heap.size w w') : MV w' g T N m f := by
  obtain ⟨C, h1, h2, h3⟩ := h
  exact ⟨C, blk_below h1 hb, h2, h3⟩
theorem gbelow {w w' : World} (hb : Below w.heap.size w w') (r : Option Nat) : w.grownBy w' r := ⟨hb.os, hb.tape, hb.output, hb.size, fun k hk _ => hb.block k hk⟩
/-- The marks of a row of Ops. -/
def mkO (k : Int) (x : Nat) : Value := if x % 3 = 2 then .string (mT (k + x).toNat) else .int .i64 (k + x)
theorem mkO0 (k : Int) (j : Nat) : Value.int .i64 (k + 3 * (j : Int)) = mkO k (j * 3) := by unfold mkO; rw [if_neg (by omega)]; congr 1; omega
theorem mkO1 (k : Int) (j : Nat) : Value.int .i64 (k + 3 * (j : Int) + 1) = mkO k (j * 3 + 1) := by unfold mkO; rw [if_neg (by omega)]; congr 1; omega
theorem mkO2 (k : Int) (j : Nat) : Value.string (mT (k + 3 * (j : Int) + 1 + 1).toNat) = mkO k (j * 3 + 2) := by unfold mkO; rw [if_pos (by omega)]; congr 2; omega
set_option maxHeartbeats 3200000 in
set_option maxRecDepth 100000 in
theorem markOpSE (g n cap : Nat) (k : Int) (w : World) (h : MV w g 82 (n * 3) 0 (mkO k)) (hn : n ≤ 1048576) (h0 : 0 ≤ k) (h1 : k ≤ 10000000) :
    Calls Tryd.prog 59 #[.slice (some ⟨g, 0, none⟩) n cap, .int .i64 k] w fun e w' => e = .returned (.int .i64 (k + 3 * n)) ∧ w.grownBy w' (some g) ∧ MV w' g 82 (n * 3) (n * 3) (mkO k) := by
  have HM := Hid.mk h
  clear h
  go_enter Tryd.func59, Tryd.ntmps59
  go_wp2
  go_loopw [1, 5] (fun kk i wr => ∃ j : Nat, j ≤ n ∧ i = .int .i64 j ∧ kk = .int .i64 (k + 3 * j) ∧ Hid (w.grownBy wr (some g)) ∧ Hid (MV wr g 82 (n * 3) (j * 3) (mkO k))) (fun _ i _ => n - (intOf i).toNat)
  case atStart => exact ⟨0, Nat.zero_le _, rfl, by simp, World.grownBy.refl _ _, by unfold Hid; rw [Nat.zero_mul]; exact HM.out⟩
  case round =>
    obtain ⟨j, hj, rfl, rfl, hg, hM⟩ := hrel
    by_cases hlt : j < n
    · have e7 : j * 3 + 3 ≤ n * 3 := by have := Nat.mul_le_mul_right 3 (show j + 1 ≤ n from hlt); rw [Nat.succ_mul] at this; exact this
      obtain ⟨⟨v0, d0⟩, f0⟩ := hM.out.cell (j * 3) (by omega)
      obtain ⟨⟨v1, d1⟩, f1⟩ := hM.out.cell (j * 3 + 1) (by omega)
      go_wp2_with fail
      obtain ⟨Z, hZ⟩ : ∃ Z : World, Z = (wr.setCell ⟨g, j * 3, none⟩ (.int .i64 (k + 3 * ↑j))).setCell ⟨g, j * 3 + 1, none⟩ (.int .i64 (k + 3 * ↑j + 1)) := ⟨_, rfl⟩
      rw [← hZ]
      have GZ : Hid (w.grownBy Z (some g)) := by unfold Hid; rw [hZ]; exact (hg.out.trans (gset _ _ _ _)).trans (gset _ _ _ _)
      have MZ : Hid (MV Z g 82 (n * 3) (j * 3 + 2) (mkO k)) := by unfold Hid; rw [hZ]; exact (hM.out.step (by omega) (mkO0 k j)).step (by omega) (mkO1 k j)
      clear hZ hg hM d0 d1 f0 f1
      refine (markTextI _ _ (by omega) (by omega)).mono ?_
      rintro e w2 ⟨rfl, hb2⟩
      have G2 := Hid.mk (GZ.out.trans (gbelow hb2 (some g)))
      have M2 := Hid.mk (MZ.out.below hb2)
      clear hb2 GZ MZ
      obtain ⟨⟨v2, d2⟩, f2⟩ := M2.out.cell (j * 3 + 2) (by omega)
      go_wp2
      exact ⟨⟨j + 1, by omega, by go_num, by congr 1; omega, G2.out.trans (gset _ _ _ _), by unfold Hid; rw [Nat.succ_mul]; exact M2.out.step (by omega) (mkO2 k j)⟩, by simp [intOf]; omega⟩
    · have hkn : j = n := by omega
      subst hkn
      go_wp2
      go_ret
      exact ⟨rfl, hg.out, hM.out⟩
set_option maxHeartbeats 3200000 in
set_option maxRecDepth 100000 in
theorem heldOpSE (g n cap : Nat) (k : Int) (w : World) (h : MV w g 82 (n * 3) (n * 3) (mkO k)) (hn : n ≤ 1048576) (h0 : 0 ≤ k) (h1 : k ≤ 10000000) :
    Calls Tryd.prog 60 #[.slice (some ⟨g, 0, none⟩) n cap, .int .i64 k] w fun e w' => e = .returned (.int .i64 (k + 3 * n)) ∧ Below w.heap.size w w' := by
  have HM := Hid.mk h
  clear h
  go_enter Tryd.func60, Tryd.ntmps60
  go_wp2
  go_loopw [1, 5] (fun kk i wr => ∃ j : Nat, j ≤ n ∧ i = .int .i64 j ∧ kk = .int .i64 (k + 3 * j) ∧ Hid (Below w.heap.size w wr)) (fun _ i _ => n - (intOf i).toNat)
  case atStart => exact ⟨0, Nat.zero_le _, rfl, by simp, Below.refl _ _⟩
  case round =>
    obtain ⟨j, hj, rfl, rfl, hb⟩ := hrel
    by_cases hlt : j < n
    · have e7 : j * 3 + 3 ≤ n * 3 := by have := Nat.mul_le_mul_right 3 (show j + 1 ≤ n from hlt); rw [Nat.succ_mul] at this; exact this
      have M1 := Hid.mk (HM.out.below hb.out)
      have d0 := M1.out.val (j * 3) (by omega) (mkO0 k j)
      have d1 := M1.out.val (j * 3 + 1) (by omega) (mkO1 k j)
      have d2 := M1.out.val (j * 3 + 2) (by omega) (mkO2 k j)
      obtain ⟨S, hS⟩ : ∃ S, S = mT (k + 3 * (j : Int) + 1 + 1).toNat := ⟨_, rfl⟩
      rw [← hS] at d2
      have CT : Hid (∀ W, Calls Tryd.prog 58 #[.int .i64 (k + 3 * (j : Int) + 1 + 1)] W fun e w' => e = .returned (.string S) ∧ Below W.heap.size W w') := fun W => by rw [hS]; exact markTextI _ W (by omega) (by omega)
      clear hS
      go_wp2_with fail
      go_region_held3 (fun w' => w'.cell? ⟨g, j * 3 + 2, none⟩ = some (.string S)) (first | go_keep | exact cell_keep hb1 (by first | assumption | (simp [*]; done))) ((go_at_call 58; refine (CT.out _).mono ?_; rintro e w1 ⟨rfl, hb1⟩))
      have hb2 : Hid (Below w.heap.size w w1) := below_then hb.out.drew hb1
      clear hb1 hb
      go_wp2
      exact ⟨⟨j + 1, by omega, by go_num, by congr 1; omega, hb2⟩, by simp [intOf]; omega⟩
    · have hkn : j = n := by omega
      subst hkn
      go_wp2
      go_ret
      exact ⟨rfl, hb.out⟩
end Go.Proofs.YtfoigigbggickaaDoor.MarksB
namespace Go.Proofs.YtfoigigbggickaaDoor.Par
open Go Go.RowKit Go.Proofs.YtfoigigbggickaaDoor.Mem Go.Proofs.YtfoigigbggickaaDoor.Syn Go.Proofs.YtfoigigbggickaaDoor.Parse Go.Proofs.YtfoigigbggickaaDoor.MarksB
set_option linter.unusedVariables false
set_option linter.unusedSimpArgs false
attribute [local go_sem ↓] Go.wp_at_zero Go.wp_at_succ

/-- A row of Ops that bears its marks. -/
def RowMk (w : World) (a : Option Addr) (n : Nat) (k : Int) : Prop := n = 0 ∨ ∃ r, a = some ⟨r, 0, none⟩ ∧ MV w r 82 (n * 3) (n * 3) (mkO k)
/-- Nothing older changes but between two bounds. -/
structure KO2 (lo hi : Nat) (w w' : World) : Prop where
  os : w'.os = w.os
  tape : w'.tape = w.tape
  output : w'.output = w.output
  size : w.heap.size ≤ w'.heap.size
  blk : ∀ b, b < w.heap.size → ¬ (lo ≤ b ∧ b < hi) → w'.heap[b]? = w.heap[b]?
theorem KO2.refl (lo hi : Nat) (w : World) : KO2 lo hi w w := ⟨rfl, rfl, rfl, Nat.le_refl _, fun _ _ _ => rfl⟩
theorem KO2.below {w w' : World} (lo hi : Nat) (h : Below w.heap.size w w') : KO2 lo hi w w' := ⟨h.os, h.tape, h.output, h.size, fun b hb _ => h.block b hb⟩
theorem KO2.grown {w w' : World} {g lo hi : Nat} (h : w.grownBy w' (some g)) (h1 : lo ≤ g) (h2 : g < hi) : KO2 lo hi w w' := ⟨h.os, h.tape, h.output, h.size, fun b hb hn => h.block b hb (by intro e; injection e with e; exact hn ⟨by omega, by omega⟩)⟩
theorem KO2.trans {a b c : World} {lo hi : Nat} (h : KO2 lo hi a b) (k : KO2 lo hi b c) : KO2 lo hi a c := ⟨k.os.trans h.os, k.tape.trans h.tape, k.output.trans h.output, Nat.le_trans h.size k.size, fun x hx hn => (k.blk x (Nat.lt_of_lt_of_le hx h.size) hn).trans (h.blk x hx hn)⟩
theorem RowAt.keep {w w' : World} {a : Option Addr} {n lo hi lo' hi' : Nat} (h : RowAt w a n lo hi) (k : KO2 lo' hi' w w') (hd : hi ≤ lo' ∨ hi' ≤ lo) : RowAt w' a n lo hi := by
  rcases h with h | ⟨r, C, h1, h2, h3, h4, h5⟩
  · exact Or.inl h
  · exact Or.inr ⟨r, C, h1, h2, h3, by rw [k.blk r (blk_lt h4) (by omega)]; exact h4, h5⟩
theorem RowMk.keep {w w' : World} {a : Option Addr} {n lo hi lo' hi' : Nat} {k : Int} (h : RowMk w a n k) (hr : n = 0 ∨ ∃ r, a = some ⟨r, 0, none⟩ ∧ lo ≤ r ∧ r < hi) (kk : KO2 lo' hi' w w') (hd : hi ≤ lo' ∨ hi' ≤ lo) : RowMk w' a n k := by
  rcases h with h | ⟨r, h1, C, h4, h5, h6⟩
  · exact Or.inl h
  rcases hr with h | ⟨r', h2, h3, h3'⟩
  · exact Or.inl h
  rw [h1] at h2
  injection h2 with h2
  injection h2 with h2 _ _
  subst h2
  exact Or.inr ⟨r, h1, C, by rw [kk.blk r (blk_lt h4) (by omega)]; exact h4, h5, h6⟩
set_option maxHeartbeats 3200000 in
set_option maxRecDepth 100000 in
theorem markNone (a : Option Addr) (c : Nat) (k : Int) (w : World) : Calls Tryd.prog 59 #[.slice a 0 c, .int .i64 k] w fun e w' => e = .returned (.int .i64 k) ∧ w' = w := by
  go_enter Tryd.func59, Tryd.ntmps59
  go_wp2
  go_loopw [1, 5] (fun kk i wr => i = .int .i64 0 ∧ kk = .int .i64 k ∧ wr = w) (fun _ i _ => 0)
  case atStart => exact ⟨rfl, rfl, rfl⟩
  case round =>
    obtain ⟨rfl, rfl, rfl⟩ := hrel
    go_wp2
    go_ret
    exact ⟨rfl, rfl⟩
set_option maxHeartbeats 3200000 in
set_option maxRecDepth 100000 in
theorem heldNone (a : Option Addr) (c : Nat) (k : Int) (w : World) : Calls Tryd.prog 60 #[.slice a 0 c, .int .i64 k] w fun e w' => e = .returned (.int .i64 k) ∧ w' = w := by
  go_enter Tryd.func60, Tryd.ntmps60
  go_wp2
  go_loopw [1, 5] (fun kk i wr => i = .int .i64 0 ∧ kk = .int .i64 k ∧ wr = w) (fun _ i _ => 0)
  case atStart => exact ⟨rfl, rfl, rfl⟩
  case round =>
    obtain ⟨rfl, rfl, rfl⟩ := hrel
    go_wp2
    go_ret
    exact ⟨rfl, rfl⟩
theorem heldRow (a : Option Addr) (n c : Nat) (k : Int) (w : World) (h : RowMk w a n k) (hn : n ≤ 1048576) (h0 : 0 ≤ k) (h1 : k ≤ 10000000) :
    Calls Tryd.prog 60 #[.slice a n c, .int .i64 k] w fun e w' => e = .returned (.int .i64 (k + 3 * n)) ∧ Below w.heap.size w w' := by
  rcases h with rfl | ⟨r, rfl, hm⟩
  · refine (heldNone a c k w).mono ?_
    rintro e w' ⟨rfl, rfl⟩
    exact ⟨by simp, Below.refl _ _⟩
  · exact heldOpSE r n c k w hm hn h0 h1
end Go.Proofs.YtfoigigbggickaaDoor.Par
namespace Go.Proofs.YtfoigigbggickaaDoor.Par
open Go Go.RowKit Go.Proofs.YtfoigigbggickaaDoor.Mem Go.Proofs.YtfoigigbggickaaDoor.Syn Go.Proofs.YtfoigigbggickaaDoor.Parse Go.Proofs.YtfoigigbggickaaDoor.MarksB
set_option linter.unusedVariables false
set_option linter.unusedSimpArgs false
attribute [local go_sem ↓] Go.wp_at_zero Go.wp_at_succ

/-- The mark that item i begins with. -/
def kA (P : Pr) (k : Int) (i : Nat) : Int := k + 5 * i + 3 * (Syn.cnt P i : Int)
/-- The marked items as one row of cells. -/
def fI (P : Pr) (L : Nat → Lo) (k : Int) (p : Nat) : Value :=
  if p % 7 = 0 then .int .i64 (kA P k (p / 7)) else if p % 7 = 1 then .string (mT (kA P k (p / 7) + 1).toNat)
  else if p % 7 = 2 then .slice (L (p / 7)).aE (P.I (p / 7)).nE (L (p / 7)).cE else if p % 7 = 3 then .slice (L (p / 7)).aF (P.I (p / 7)).nF (L (p / 7)).cF
  else .int .i64 (kA P k (p / 7) + 2 + 3 * ((P.I (p / 7)).nE : Int) + 3 * ((P.I (p / 7)).nF : Int) + ((p % 7 : Nat) - 4 : Int))
section
variable {P : Pr} {L : Nat → Lo} {k : Int}
theorem fI0 (j : Nat) : fI P L k (j * 7) = .int .i64 (kA P k j) := by unfold fI; rw [if_pos (by omega), show j * 7 / 7 = j by omega]
theorem fI1 (j : Nat) : fI P L k (j * 7 + 1) = .string (mT (kA P k j + 1).toNat) := by unfold fI; rw [if_neg (by omega), if_pos (by omega), show (j * 7 + 1) / 7 = j by omega]
theorem fI2 (j : Nat) : fI P L k (j * 7 + 2) = .slice (L j).aE (P.I j).nE (L j).cE := by unfold fI; rw [if_neg (by omega), if_neg (by omega), if_pos (by omega), show (j * 7 + 2) / 7 = j by omega]
theorem fI3 (j : Nat) : fI P L k (j * 7 + 3) = .slice (L j).aF (P.I j).nF (L j).cF := by unfold fI; rw [if_neg (by omega), if_neg (by omega), if_neg (by omega), if_pos (by omega), show (j * 7 + 3) / 7 = j by omega]
theorem fI4 (j q : Nat) (hq : q < 3) : fI P L k (j * 7 + 4 + q) = .int .i64 (kA P k j + 2 + 3 * ((P.I j).nE : Int) + 3 * ((P.I j).nF : Int) + q) := by
  unfold fI
  rw [if_neg (by omega), if_neg (by omega), if_neg (by omega), if_neg (by omega), show (j * 7 + 4 + q) / 7 = j by omega, show (j * 7 + 4 + q) % 7 = 4 + q by omega]
  congr 1
  omega
end
def MW (P : Pr) (L : Nat → Lo) (k : Int) (w : World) (g m : Nat) : Prop := ∃ C, w.heap[g]? = some (.cells C 45) ∧ P.n * 7 ≤ C.size ∧ (∀ p, p < m → p < P.n * 7 → C[p]? = some (fI P L k p)) ∧ ∀ p, p < P.n * 7 → (p % 7 = 2 ∨ p % 7 = 3) → C[p]? = some (fI P L k p)
variable {P : Pr} {L : Nat → Lo} {k : Int} {w w' : World} {g m : Nat}
theorem MW.step {v : Value} (h : MW P L k w g m) (hm : m < P.n * 7) (hv : v = fI P L k m) : MW P L k (w.setCell ⟨g, m, none⟩ v) g (m + 1) := by
  obtain ⟨C, h1, h2, h3, h4⟩ := h
  have key : ∀ p, p < P.n * 7 → (m ≠ p → C[p]? = some (fI P L k p)) → (C.setIfInBounds m v)[p]? = some (fI P L k p) := fun p hp hc => by
    rw [Array.getElem?_setIfInBounds]
    by_cases e : m = p
    · subst e; rw [if_pos rfl, if_pos (by omega), hv]
    · rw [if_neg e]; exact hc e
  exact ⟨_, blk_set h1 m v, by simpa using h2, fun p hp hp2 => key p hp2 fun e => h3 p (by omega) hp2, fun p hp hq => key p hp fun _ => h4 p hp hq⟩
theorem MW.skip (h : MW P L k w g m) (hm : m % 7 = 2) : MW P L k w g (m + 2) := by
  obtain ⟨C, h1, h2, h3, h4⟩ := h
  refine ⟨C, h1, h2, fun p hp hp2 => ?_, h4⟩
  rcases Nat.lt_or_ge p m with e | e
  · exact h3 p e hp2
  · exact h4 p hp2 (by omega)
theorem MW.val (h : MW P L k w g m) (p : Nat) (hp : p < P.n * 7) (hq : p < m ∨ p % 7 = 2 ∨ p % 7 = 3) : w.cell? ⟨g, p, none⟩ = some (fI P L k p) := by
  obtain ⟨C, h1, h2, h3, h4⟩ := h
  rw [blk_cell h1 p]
  rcases hq with e | e
  · exact h3 p e hp
  · exact h4 p hp e
theorem MW.cell (h : MW P L k w g m) (p : Nat) (hp : p < P.n * 7) : (∃ v, w.cell? ⟨g, p, none⟩ = some v) ∧ w.frozen? ⟨g, p, none⟩ = false := by
  obtain ⟨C, h1, h2, h3⟩ := h
  exact ⟨⟨C[p], by rw [blk_cell h1 p]; exact Array.getElem?_eq_getElem (by omega)⟩, blk_unfrozen h1 p⟩
theorem MW.below (h : MW P L k w g m) (hb : Below w.heap.size w w') : MW P L k w' g m := by
  obtain ⟨C, h1, h2⟩ := h
  exact ⟨C, blk_below h1 hb, h2⟩
/-- The block of a row that isn't empty. -/
def rb (a : Option Addr) (n : Nat) : Option Nat := if n = 0 then none else a.map (·.block)
theorem markRow2 (a : Option Addr) (n c lo hi : Nat) (k : Int) (w : World) (h : RowAt w a n lo hi) (hn : n ≤ 1048576) (h0 : 0 ≤ k) (h1 : k ≤ 10000000) :
    Calls Tryd.prog 59 #[.slice a n c, .int .i64 k] w fun e w' => e = .returned (.int .i64 (k + 3 * n)) ∧ w.grownBy w' (rb a n) ∧ RowMk w' a n k := by
  by_cases hz : n = 0
  · subst hz
    refine (markNone a c k w).mono ?_
    rintro e w' ⟨rfl, rfl⟩
    exact ⟨by simp, World.grownBy.refl _ _, Or.inl rfl⟩
  rcases h with h | ⟨r, C, rfl, h2, h3, h4, h5⟩
  · exact absurd h hz
  · refine (markOpSE r n c k w ⟨C, h4, h5, fun x hx => by omega⟩ hn h0 h1).mono ?_
    rintro e w' ⟨rfl, hg, hm⟩
    refine ⟨rfl, ?_, Or.inr ⟨r, rfl, hm⟩⟩
    unfold rb; rw [if_neg hz]; exact hg
theorem MW.grow {a : Option Addr} {n lo hi : Nat} (h : MW P L k w g m) (hr : RowAt w a n lo hi) (hg : w.grownBy w' (rb a n)) : MW P L k w' g m := by
  obtain ⟨C, h1, h2⟩ := h
  refine ⟨C, ?_, h2⟩
  rw [hg.block g (blk_lt h1) (fun e => ?_)]
  · exact h1
  · unfold rb at e
    split at e
    · cases e
    · rcases hr with hr | ⟨r, D, rfl, _, _, h4, _⟩
      · contradiction
      · injection e with e
        exact blk_ne h1 h4 (by decide) e
def aR (L : Nat → Lo) (t : Nat) : Option Addr := if t % 2 = 0 then (L (t / 2)).aE else (L (t / 2)).aF
def nR (P : Pr) (t : Nat) : Nat := if t % 2 = 0 then (P.I (t / 2)).nE else (P.I (t / 2)).nF
def kR (P : Pr) (k : Int) (t : Nat) : Int := kA P k (t / 2) + 2 + (if t % 2 = 0 then 0 else 3 * ((P.I (t / 2)).nE : Int))
/-- The rows of Ops: the first m bear their marks. -/
structure RW (P : Pr) (L : Nat → Lo) (k : Int) (X : Nat → Nat) (w : World) (m : Nat) : Prop where
  md : ∀ t, t < m → t < 2 * P.n → RowMk w (aR L t) (nR P t) (kR P k t)
  rd : ∀ t, m ≤ t → t < 2 * P.n → RowAt w (aR L t) (nR P t) (X t) (X (t + 1))
/-- Where the rows lie. -/
structure Pl (P : Pr) (L : Nat → Lo) (X : Nat → Nat) : Prop where
  pl : ∀ t, t < 2 * P.n → nR P t = 0 ∨ ∃ r, aR L t = some ⟨r, 0, none⟩ ∧ X t ≤ r ∧ r < X (t + 1)
  up : ∀ t u, t ≤ u → u ≤ 2 * P.n → X t ≤ X u
variable {X : Nat → Nat}
theorem rowMk_blk {a : Option Addr} {n : Nat} {z : Int} (h : RowMk w a n z) (hk : ∀ r C, a = some ⟨r, 0, none⟩ → w.heap[r]? = some (.cells C 82) → n ≠ 0 → w'.heap[r]? = some (.cells C 82)) : RowMk w' a n z := by
  rcases h with h | ⟨r, h1, C, h4, h5, h6⟩
  · exact Or.inl h
  · by_cases hz : n = 0
    · exact Or.inl hz
    · exact Or.inr ⟨r, h1, C, hk r C h1 h4 hz, h5, h6⟩
theorem rowAt_blk {a : Option Addr} {n lo hi : Nat} (h : RowAt w a n lo hi) (hk : ∀ r C, a = some ⟨r, 0, none⟩ → w.heap[r]? = some (.cells C 82) → n ≠ 0 → w'.heap[r]? = some (.cells C 82)) : RowAt w' a n lo hi := by
  rcases h with h | ⟨r, C, h1, h2, h3, h4, h5⟩
  · exact Or.inl h
  · by_cases hz : n = 0
    · exact Or.inl hz
    · exact Or.inr ⟨r, C, h1, h2, h3, hk r C h1 h4 hz, h5⟩
theorem RW.below (h : RW P L k X w m) (hb : Below w.heap.size w w') : RW P L k X w' m :=
  ⟨fun t h1 h2 => rowMk_blk (h.md t h1 h2) fun r C _ hc _ => blk_below hc hb, fun t h1 h2 => rowAt_blk (h.rd t h1 h2) fun r C _ hc _ => blk_below hc hb⟩
theorem RW.setg {C : Array Value} (h : RW P L k X w m) (hg : w.heap[g]? = some (.cells C 45)) (q : Nat) (v : Value) : RW P L k X (w.setCell ⟨g, q, none⟩ v) m :=
  ⟨fun t h1 h2 => rowMk_blk (h.md t h1 h2) fun r C _ hc _ => blk_set_other hc (blk_ne hc hg (by decide)) _, fun t h1 h2 => rowAt_blk (h.rd t h1 h2) fun r C _ hc _ => blk_set_other hc (blk_ne hc hg (by decide)) _⟩
theorem RW.grow (h : RW P L k X w m) (hp : Pl P L X) (hm : m < 2 * P.n) (hg : w.grownBy w' (rb (aR L m) (nR P m))) (hk : RowMk w' (aR L m) (nR P m) (kR P k m)) : RW P L k X w' (m + 1) := by
  have key : ∀ t, t < 2 * P.n → t ≠ m → ∀ r C, aR L t = some ⟨r, 0, none⟩ → w.heap[r]? = some (.cells C 82) → nR P t ≠ 0 → w'.heap[r]? = some (.cells C 82) := fun t ht hne r C ha hc hn0 => by
    rw [hg.block r (blk_lt hc) (fun e => ?_)]
    · exact hc
    · unfold rb at e
      split at e
      · cases e
      · rename_i hz
        rcases hp.pl m hm with h0 | ⟨r1, e1, e2, e3⟩
        · exact hz h0
        rcases hp.pl t ht with h0 | ⟨r2, f1, f2, f3⟩
        · exact hn0 h0
        rw [e1] at e
        injection e with e
        rw [f1] at ha
        injection ha with ha
        injection ha with ha _ _
        have e' : r = r1 := e
        rcases Nat.lt_or_gt_of_ne hne with hlt | hgt
        · have := hp.up (t + 1) m (by omega) (by omega); omega
        · have := hp.up (m + 1) t (by omega) (by omega); omega
  refine ⟨fun t h1 h2 => ?_, fun t h1 h2 => rowAt_blk (h.rd t (by omega) h2) (key t h2 (by omega))⟩
  rcases Nat.lt_or_ge t m with e | e
  · exact rowMk_blk (h.md t e h2) (key t h2 (by omega))
  · have : t = m := by omega
    subst this
    exact hk
end Go.Proofs.YtfoigigbggickaaDoor.Par
