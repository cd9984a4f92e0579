import Derived.Test.YtfoigigbggickaaDoorPq40
import Derived.Test.YtfoigigbggickaaDoorPq41
import Derived.Test.YtfoigigbggickaaDoorPq47
namespace Go.Proofs.YtfoigigbggickaaDoor.Par
open Go Go.RowKit Go.Proofs.YtfoigigbggickaaDoor.Mem Go.Proofs.YtfoigigbggickaaDoor.Syn Go.Proofs.YtfoigigbggickaaDoor.Parse
set_option linter.unusedVariables false
set_option linter.unusedSimpArgs false
attribute [local go_sem ↓] Go.wp_at_zero Go.wp_at_succ


noncomputable def z0 : Code := Tryd.f4.body.getD .skip
noncomputable def zL : Code := lpo (bk (sL (sR (sR (sR (sR z0))))))
noncomputable def zX : Code := bk (sR zL)
noncomputable def zE : Code := cF (sR (sR (sR (sR (sR zX)))))
noncomputable def zI : Code := cF (sR zE)
theorem z0_eq : z0 = .seq (sL z0) (.seq (sL (sR z0)) (.seq (sL (sR (sR z0))) (.seq (sL (sR (sR (sR z0)))) (.seq (.block 0 (.loop zL)) (sR (sR (sR (sR (sR z0))))))))) := rfl
theorem zL_eq : zL = .seq (sL zL) (.block 1 zX) := rfl
theorem zX_eq : zX = .seq (sL zX) (.seq (sL (sR zX)) (.seq (sL (sR (sR zX))) (.seq (sL (sR (sR (sR zX)))) (sR (sR (sR (sR zX))))))) := rfl
theorem zI_eq : zI = .seq (sL zI) (.seq (sL (sR zI)) (sR (sR zI))) := rfl
def Fp (w : World) (pb : Nat) (v0 v1 iv v5 v6 v7 : Value) (r : List Value) : Act :=
  { tmps := (v0 :: v1 :: .pointer (some ⟨w.heap.size, 0, none⟩) :: .pointer (some ⟨pb, 0, none⟩) :: iv :: v5 :: v6 :: v7 :: r).toArray, defers := [] }
/-- The items' cells: every row can be read. -/
inductive Itr (B : Nat) (w : World) : List Value → List Im → Prop
  | nil : Itr B w [] []
  | snoc (cs : List Value) (L : List Im) (im : Im) (vE vF : Value) (h : Itr B w cs L) (hE : OwnO B w vE im.E) (hF : OwnO B w vF im.F) : Itr B w (cs ++ itC im vE vF) (L ++ [im])
theorem Itr.keep {B : Nat} {w w' : World} {cs : List Value} {L : List Im} (h : Itr B w cs L) (hk : ∀ v L, OwnO B w v L → OwnO B w' v L) : Itr B w' cs L := by
  induction h with
  | nil => exact .nil
  | snoc cs L im vE vF h hE hF ih => exact .snoc cs L im vE vF ih (hk _ _ hE) (hk _ _ hF)
/-- The frame of ParseProg. -/
structure Mp (t : List UInt8) (g N c : Nat) (w : World) (pb : Nat) (s : Sg) (iv : Value) (L : List Im) (wr : World) : Prop where
  r : wr.heap[w.heap.size]? = some (.cells #[.int .i64 0, .int .i64 0, .slice none 0 0] 27)
  b : wr.heap[pb]? = some (.cells #[.slice (some ⟨g, 0, none⟩) N c, .int .i64 (s.i : Int), .int .i64 (s.o : Int), .int .i64 s.e, .int .i64 (s.a : Int)] 38)
  n0 : pb ≠ w.heap.size
  le : w.heap.size ≤ pb
  tk : ∃ TC, wr.heap[g]? = some (.cells TC 40) ∧ ∀ k, k < N → ∀ q, q < 4 → TC[k * 4 + q]? = (tk4 (tkT t k))[q]?
  it : ∃ cs, wr.ownsRow w.heap.size 45 7 iv L.length cs ∧ Itr w.heap.size wr cs L
  bel : Below w.heap.size w wr
variable {t : List UInt8} {g N c : Nat} {w : World} {pb : Nat} {s : Sg} {iv : Value} {L : List Im} {wr wx : World}
theorem blk_ne {p q : Nat} {C D : Array Value} {ty tz : TypeId} {fr fz : Nat × Nat} (h : wr.heap[p]? = some (.cells C ty fr)) (k : wr.heap[q]? = some (.cells D tz fz)) (hne : ty ≠ tz) : p ≠ q := fun e => by
  subst e
  rw [h] at k
  injection k with k
  injection k with _ k _
  exact hne k
theorem Mp.tq (h : Mp t g N c w pb s iv L wr) : Tq t N g wr := by
  obtain ⟨TC, k1, k2⟩ := h.tk
  exact ⟨fun k hk => (blk_cell k1 (k * 4)).trans (k2 k hk 0 (by omega)), fun k hk => (blk_cell k1 (k * 4 + 1)).trans (k2 k hk 1 (by omega)), fun k hk => (blk_cell k1 (k * 4 + 2)).trans (k2 k hk 2 (by omega)), fun k hk => (blk_cell k1 (k * 4 + 3)).trans (k2 k hk 3 (by omega))⟩
theorem Mp.below (h : Mp t g N c w pb s iv L wr) (hb : Below wr.heap.size wr wx) : Mp t g N c w pb s iv L wx := by
  obtain ⟨cs, h1, h2⟩ := h.it
  obtain ⟨TC, k1, k2⟩ := h.tk
  exact ⟨blk_below h.r hb, blk_below h.b hb, h.n0, h.le, ⟨TC, blk_below k1 hb, k2⟩, ⟨cs, row_below h1 hb, h2.keep fun _ _ o => o.below hb⟩, below_then h.bel hb⟩
theorem Mp.set {s' : Sg} {k : Nat} {u : Value} (h : Mp t g N c w pb s iv L wr) (e : (#[.slice (some ⟨g, 0, none⟩) N c, .int .i64 (s.i : Int), .int .i64 (s.o : Int), .int .i64 s.e, .int .i64 (s.a : Int)] : Array Value).setIfInBounds k u = #[.slice (some ⟨g, 0, none⟩) N c, .int .i64 (s'.i : Int), .int .i64 (s'.o : Int), .int .i64 s'.e, .int .i64 (s'.a : Int)]) : Mp t g N c w pb s' iv L (wr.setCell ⟨pb, k, none⟩ u) := by
  obtain ⟨cs, h1, h2⟩ := h.it
  obtain ⟨TC, k1, k2⟩ := h.tk
  exact ⟨blk_set_other h.r h.n0.symm _, by rw [← e]; exact blk_set h.b k u, h.n0, h.le, ⟨TC, blk_set_other k1 (blk_ne k1 h.b (by decide)) _, k2⟩, ⟨cs, row_set'' h1 h.b (by decide), h2.keep fun _ _ o => row_set'' o h.b (by decide)⟩, h.bel.setCell (p := ⟨pb, k, none⟩) h.le _⟩
theorem Mp.put (h : Mp t g N c w pb s iv L wr) (s' : Sg) : Mp t g N c w pb s' iv L (((((wr.setCell ⟨pb, 0, none⟩ (.slice (some ⟨g, 0, none⟩) N c)).setCell ⟨pb, 1, none⟩ (.int .i64 (s'.i : Int))).setCell ⟨pb, 2, none⟩ (.int .i64 (s'.o : Int))).setCell ⟨pb, 3, none⟩ (.int .i64 s'.e)).setCell ⟨pb, 4, none⟩ (.int .i64 (s'.a : Int))) :=
  ((((h.set (s' := s) rfl).set (s' := ⟨s'.i, s.o, s.e, s.a⟩) rfl).set (s' := ⟨s'.i, s'.o, s.e, s.a⟩) rfl).set (s' := ⟨s'.i, s'.o, s'.e, s.a⟩) rfl).set (s' := s') rfl
/-- A store into a box of an item's own. -/
theorem Mp.seti {bi k : Nat} {C : Array Value} {u : Value} (h : Mp t g N c w pb s iv L wr) (hb : wr.heap[bi]? = some (.cells C 45)) (h1 : bi ≠ pb) (h2 : bi ≠ w.heap.size) (h3 : w.heap.size ≤ bi) (hv : iv.ownBlock ≠ some bi) : Mp t g N c w pb s iv L (wr.setCell ⟨bi, k, none⟩ u) := by
  obtain ⟨cs, h4, h5⟩ := h.it
  obtain ⟨TC, k1, k2⟩ := h.tk
  exact ⟨blk_set_other h.r h2.symm _, blk_set_other h.b h1.symm _, h.n0, h.le, ⟨TC, blk_set_other k1 (blk_ne k1 hb (by decide)) _, k2⟩, ⟨cs, ownsRow_setCell_other h4 hv u, h5.keep fun _ _ o => row_set'' o hb (by decide)⟩, h.bel.setCell (p := ⟨bi, k, none⟩) h3 _⟩
theorem Mp.far {q : Nat} (h : Mp t g N c w pb s iv L wr) (hq : wr.heap.size ≤ q) : iv.ownBlock ≠ some q := fun e => by
  obtain ⟨cs, h4, h5⟩ := h.it
  have := (h4.lt q e).2; omega
theorem Mp.snoc {v' : Value} {im : Im} {vE vF : Value} {cs : List Value} (h : Mp t g N c w pb s iv L wr) (hO : wr.ownsRow w.heap.size 45 7 iv L.length cs) (hI : Itr w.heap.size wr cs L) (hE : OwnO w.heap.size wr vE im.E) (hF : OwnO w.heap.size wr vF im.F) (row : wx.ownsRow w.heap.size 45 7 v' (L.length + 1) (cs ++ itC im vE vF)) (hg : wr.grownBy wx iv.ownBlock) : Mp t g N c w pb s v' (L ++ [im]) wx := by
  have hk : ∀ {q : Nat} {C : Array Value} {t : TypeId} {fr : Nat × Nat}, wr.heap[q]? = some (.cells C t fr) → t ≠ 45 → wx.heap[q]? = some (.cells C t fr) := fun {q C t fr} hq ht => by
    rw [hg.block q (blk_lt hq) (fun e => ?_)]
    · exact hq
    · obtain ⟨c2, f2, h2⟩ := row_kind hO q e.symm
      rw [hq] at h2
      injection h2 with h2
      injection h2 with _ h2 _
      exact ht h2
  have hko : ∀ v L, OwnO w.heap.size wr v L → OwnO w.heap.size wx v L := fun v L o => o.keepB fun x C fr hx hc => hk hc (by decide)
  obtain ⟨TC, k1, k2⟩ := h.tk
  exact ⟨hk h.r (by decide), hk h.b (by decide), h.n0, h.le, ⟨TC, hk k1 (by decide), k2⟩, ⟨_, by rw [List.length_append]; exact row, .snoc _ _ _ _ _ (hI.keep hko) (hko _ _ hE) (hko _ _ hF)⟩, h.bel.grown hg h.bel.size (fun k hk => (hO.lt k hk).1)⟩
theorem Mp.shape (h : Mp t g N c w pb s iv L wr) : ∃ ia ic, iv = .slice ia L.length ic := by
  obtain ⟨cs, h4, h5⟩ := h.it
  obtain ⟨a, c, e, -⟩ := row_shape h4; exact ⟨_, _, e⟩
theorem txt_up {B B' : Nat} {w : World} {v : Value} {bs : List UInt8} (h : Txt B w v bs) (hB : B ≤ B') : Txt B' w v bs := by
  obtain ⟨p, c, h1, h2, h3⟩ := h
  refine ⟨p, c, h1, h2, ?_⟩
  rcases h3 with h3 | ⟨g, o, h4, h5⟩
  · exact Or.inl h3
  · exact Or.inr ⟨g, o, h4, fun j hj => ⟨Nat.lt_of_lt_of_le (h5 j hj).1 hB, (h5 j hj).2⟩⟩
theorem toksC_succ (t : List UInt8) (n : Nat) : toksC t (n + 1) = toksC t n ++ tk4 (tkT t n) := by
  unfold toksC
  rw [List.range_succ, List.flatMap_append]
  simp
theorem toksC_len (t : List UInt8) : ∀ n, (toksC t n).length = n * 4
  | 0 => rfl
  | n + 1 => by rw [toksC_succ, List.length_append, toksC_len t n]; simp [tk4]; omega
theorem toksC_at (t : List UInt8) (k q : Nat) (hq : q < 4) : ∀ n, k < n → (toksC t n)[k * 4 + q]? = (tk4 (tkT t k))[q]?
  | 0, h => absurd h (Nat.not_lt_zero _)
  | n + 1, h => by
    rw [toksC_succ]
    rcases Nat.lt_or_ge k n with hk | hk
    · rw [List.getElem?_append_left (by rw [toksC_len]; omega)]; exact toksC_at t k q hq n hk
    · have : k = n := by omega
      subst this
      rw [List.getElem?_append_right (by rw [toksC_len]; omega), toksC_len, show k * 4 + q - k * 4 = q by omega]
theorem lex_tq {B : Nat} {v : Value} (h : wx.ownsRow B 40 4 v N (toksC t N)) (hN : 1 ≤ N) : ∃ g c TC, v = .slice (some ⟨g, 0, none⟩) N c ∧ wx.heap[g]? = some (.cells TC 40) ∧ ∀ k, k < N → ∀ q, q < 4 → TC[k * 4 + q]? = (tk4 (tkT t k))[q]? := by
  rcases h.2 with ⟨h1, h2⟩ | ⟨g, cap, cur, h1, h2, h3, h4⟩
  · omega
  · subst h1
    refine ⟨g, cap, cur, rfl, h3, fun k hk q hq => ?_⟩
    rw [← toksC_at t k q hq N hk, ← World.ownsRow.cellAt h (k * 4 + q) (by omega), blk_cell h3]
end Go.Proofs.YtfoigigbggickaaDoor.Par
namespace Go.Proofs.YtfoigigbggickaaDoor.Par
open Go Go.RowKit Go.Proofs.YtfoigigbggickaaDoor.Mem Go.Proofs.YtfoigigbggickaaDoor.Syn Go.Proofs.YtfoigigbggickaaDoor.Parse
set_option linter.unusedVariables false
set_option linter.unusedSimpArgs false
set_option maxHeartbeats 6400000
set_option maxRecDepth 1000000
attribute [local go_sem ↓] Go.wp_at_zero Go.wp_at_succ
theorem pp5A {t : List UInt8} {g N c : Nat} {w wr : World} {pb : Nat} {s : Sg} {L : List Im} {Q : Exit → Act → World → Prop} {v0 v1 iv v5 v6 v7 : Value} {r : List Value} (hr : r.length = 54) {A B : Code} (M : Hid (Mp t g N c w pb s iv L wr)) (he : s.e = 0) (hn : Hid (∀ r', r'.length = 54 → Code.wp Tryd.prog A Q (Fp w pb v0 v1 iv v5 v6 v7 r') wr)) :
    Code.wp Tryd.prog (.seq (sL (sL zL)) (.cond (.tmp 18) A B)) Q (Fp w pb v0 v1 iv v5 v6 v7 r) wr := by
  have h1 : (s.e == 0) = true := by simp [he]
  clear he
  have b3 := (blk_cell M.out.b 3).trans rfl
  revert r
  refine @elim_out 54 _ ?_
  iterate 54 (intro _)
  show Code.wp _ _ _ _ _
  conv => arg 2; dsimp only [zL, z0, Tryd.f4, Option.getD, sR, sL, cT, cF, bk, lpo]
  conv => arg 4; dsimp only [Fp]
  go_wp2_with fail
  refine hn.out _ ?_
  rfl
theorem pp5B {t : List UInt8} {g N c : Nat} {w wr : World} {pb : Nat} {s : Sg} {L : List Im} {Q : Exit → Act → World → Prop} {v0 v1 iv v5 v6 v7 : Value} {r : List Value} (hr : r.length = 54) {A B : Code} (M : Hid (Mp t g N c w pb s iv L wr)) (he : s.e ≠ 0) (hn : Hid (∀ r', r'.length = 54 → Code.wp Tryd.prog B Q (Fp w pb v0 v1 iv v5 v6 v7 r') wr)) :
    Code.wp Tryd.prog (.seq (sL (sL zL)) (.cond (.tmp 18) A B)) Q (Fp w pb v0 v1 iv v5 v6 v7 r) wr := by
  have h1 : (s.e == 0) = false := by simp [he]
  clear he
  have b3 := (blk_cell M.out.b 3).trans rfl
  revert r
  refine @elim_out 54 _ ?_
  iterate 54 (intro _)
  show Code.wp _ _ _ _ _
  conv => arg 2; dsimp only [zL, z0, Tryd.f4, Option.getD, sR, sL, cT, cF, bk, lpo]
  conv => arg 4; dsimp only [Fp]
  go_wp2_with fail
  refine hn.out _ ?_
  rfl
theorem pp6 {t : List UInt8} {g N c : Nat} {w wr : World} {pb : Nat} {s : Sg} {L : List Im} {Q : Exit → Act → World → Prop} {v0 v1 iv v5 v6 v7 : Value} {r : List Value} (hr : r.length = 54) {x : Tk} (hx : Hid (x = tkT t s.i)) (hT : Hid (Tq t N g wr)) (hN5 : N ≤ 100000) (hi : s.i < N) (M : Hid (Mp t g N c w pb s iv L wr)) (hn : Hid (∀ r' bt wx, r'.length = 54 → Below wr.heap.size wr wx → wx.heap[bt]? = some (.cells #[.int .i64 (kS x), .int .i64 x.v, .string ⟨(wS x).toArray⟩, .int .i64 (x.at' : Int)] 40) → Q .normal (Fp w pb v0 v1 iv (.pointer (some ⟨bt, 0, none⟩)) v6 v7 r') wx)) :
    Code.wp Tryd.prog (sL zX) Q (Fp w pb v0 v1 iv v5 v6 v7 r) wr := by
  have zz0 := hT.out.c0 s.i hi
  have zz1 := hT.out.c1 s.i hi
  have zz2 := hT.out.c2 s.i hi
  have zz3 := hT.out.c3 s.i hi
  rw [← hx.out] at zz0 zz1 zz2 zz3
  have hgl := lt_of_cell zz0
  have k0 : (0 : Int) ≤ (s.i : Int) := by omega
  have k1 : (s.i : Int) < (N : Int) := by omega
  have b0 := (blk_cell M.out.b 0).trans rfl
  have b1 := (blk_cell M.out.b 1).trans rfl
  revert r
  refine @elim_out 54 _ ?_
  iterate 54 (intro _)
  show Code.wp _ _ _ _ _
  conv => arg 2; dsimp only [zX, zL, z0, Tryd.f4, Option.getD, sR, sL, cT, cF, bk, lpo]
  conv => arg 4; dsimp only [Fp]
  go_wp2_with fail
  refine hn.out _ _ _ ?_ (below_alloc' (Below.refl _ _) _) (blk_new _ _)
  rfl
theorem pp7A {w wr : World} {pb : Nat} {Q : Exit → Act → World → Prop} {v0 v1 iv v6 v7 : Value} {r : List Value} (hr : r.length = 54) {A B : Code} {x : Tk} {bt : Nat} (T1 : Hid (wr.heap[bt]? = some (.cells #[.int .i64 (kS x), .int .i64 x.v, .string ⟨(wS x).toArray⟩, .int .i64 (x.at' : Int)] 40))) (hk : kS x = 4) (hn : Hid (∀ r', r'.length = 54 → Code.wp Tryd.prog A Q (Fp w pb v0 v1 iv (.pointer (some ⟨bt, 0, none⟩)) v6 v7 r') wr)) :
    Code.wp Tryd.prog (.seq (sL (sL (sR zX))) (.cond (.tmp 27) A B)) Q (Fp w pb v0 v1 iv (.pointer (some ⟨bt, 0, none⟩)) v6 v7 r) wr := by
  have t0 := (blk_cell T1.out 0).trans rfl
  have h1 : (kS x == 4) = true := by simp [hk]
  clear hk
  revert r
  refine @elim_out 54 _ ?_
  iterate 54 (intro _)
  show Code.wp _ _ _ _ _
  conv => arg 2; dsimp only [zX, zL, z0, Tryd.f4, Option.getD, sR, sL, cT, cF, bk, lpo]
  conv => arg 4; dsimp only [Fp]
  go_wp2_with fail
  refine hn.out _ ?_
  rfl
theorem pp7B {w wr : World} {pb : Nat} {Q : Exit → Act → World → Prop} {v0 v1 iv v6 v7 : Value} {r : List Value} (hr : r.length = 54) {A B : Code} {x : Tk} {bt : Nat} (T1 : Hid (wr.heap[bt]? = some (.cells #[.int .i64 (kS x), .int .i64 x.v, .string ⟨(wS x).toArray⟩, .int .i64 (x.at' : Int)] 40))) (hk : kS x ≠ 4) (hn : Hid (∀ r', r'.length = 54 → Code.wp Tryd.prog B Q (Fp w pb v0 v1 iv (.pointer (some ⟨bt, 0, none⟩)) v6 v7 r') wr)) :
    Code.wp Tryd.prog (.seq (sL (sL (sR zX))) (.cond (.tmp 27) A B)) Q (Fp w pb v0 v1 iv (.pointer (some ⟨bt, 0, none⟩)) v6 v7 r) wr := by
  have t0 := (blk_cell T1.out 0).trans rfl
  have h1 : (kS x == 4) = false := by simp [hk]
  clear hk
  revert r
  refine @elim_out 54 _ ?_
  iterate 54 (intro _)
  show Code.wp _ _ _ _ _
  conv => arg 2; dsimp only [zX, zL, z0, Tryd.f4, Option.getD, sR, sL, cT, cF, bk, lpo]
  conv => arg 4; dsimp only [Fp]
  go_wp2_with fail
  refine hn.out _ ?_
  rfl
theorem pp8 {t : List UInt8} {g N c : Nat} {w wr : World} {pb : Nat} {s : Sg} {L : List Im} {Q : Exit → Act → World → Prop} {v0 v1 v5 v6 v7 : Value} {r : List Value} (hr : r.length = 54) {ia : Option Addr} {ic : Nat} (M : Hid (Mp t g N c w pb s (.slice ia L.length ic) L wr)) (hn : Hid (∀ a' wx, bodyPost Tryd.prog Tryd.f4 (fun e w' => e = .returned (.agg #[.int .i64 0, .int .i64 0, .slice ia L.length ic]) ∧ w' = ((wr.setCell ⟨w.heap.size, 0, none⟩ (.int .i64 0)).setCell ⟨w.heap.size, 1, none⟩ (.int .i64 0)).setCell ⟨w.heap.size, 2, none⟩ (.slice ia L.length ic)) .ret a' wx → Q .ret a' wx)) :
    Code.wp Tryd.prog (cT (sR (sL (sR zX)))) Q (Fp w pb v0 v1 (.slice ia L.length ic) v5 v6 v7 r) wr := by
  have r0 := (blk_cell M.out.r 0).trans rfl
  have r1 := (blk_cell M.out.r 1).trans rfl
  have r2 := (blk_cell M.out.r 2).trans rfl
  have fr0 := blk_unfrozen M.out.r 0
  have fr1 := blk_unfrozen M.out.r 1
  have fr2 := blk_unfrozen M.out.r 2
  revert r
  refine @elim_out 54 _ ?_
  iterate 54 (intro _)
  show Code.wp _ _ _ _ _
  conv => arg 2; dsimp only [zX, zL, z0, Tryd.f4, Option.getD, sR, sL, cT, cF, bk, lpo]
  conv => arg 4; dsimp only [Fp]
  go_wp2_with fail
  refine hn.out _ _ ?_
  refine bodyPost_ret (by simp [results, Tryd.results4, go_sem, r0, r1, r2]; try rfl) rfl ?_
  exact ⟨rfl, rfl⟩
theorem pp9 {w wr : World} {pb : Nat} {Q : Exit → Act → World → Prop} {v0 v1 iv v5 v6 v7 : Value} {r : List Value} (hr : r.length = 54) (hn : Hid (∀ r', r'.length = 54 → Q .normal (Fp w pb v0 v1 iv v5 (.int .i64 0) v7 r') wr)) :
    Code.wp Tryd.prog (sL (sR (sR zX))) Q (Fp w pb v0 v1 iv v5 v6 v7 r) wr := by
  revert r
  refine @elim_out 54 _ ?_
  iterate 54 (intro _)
  show Code.wp _ _ _ _ _
  conv => arg 2; dsimp only [zX, zL, z0, Tryd.f4, Option.getD, sR, sL, cT, cF, bk, lpo]
  conv => arg 4; dsimp only [Fp]
  go_wp2_with fail
  refine hn.out _ ?_
  rfl
theorem pp10A {w wr : World} {pb : Nat} {Q : Exit → Act → World → Prop} {v0 v1 iv v7 : Value} {r : List Value} (hr : r.length = 54) {x : Tk} {bt : Nat} (T1 : Hid (wr.heap[bt]? = some (.cells #[.int .i64 (kS x), .int .i64 x.v, .string ⟨(wS x).toArray⟩, .int .i64 (x.at' : Int)] 40))) (hk : kS x = 1) (hn : Hid (∀ r', r'.length = 54 → Q .normal (Fp w pb v0 v1 iv (.pointer (some ⟨bt, 0, none⟩)) (.int .i64 (kndW (wk (wS x)))) v7 r') wr)) :
    Code.wp Tryd.prog (sL (sR (sR (sR zX)))) Q (Fp w pb v0 v1 iv (.pointer (some ⟨bt, 0, none⟩)) (.int .i64 0) v7 r) wr := by
  have t0 := (blk_cell T1.out 0).trans rfl
  have t2 := (blk_cell T1.out 2).trans rfl
  have h1 : (kS x == 1) = true := by simp [hk]
  have CK := Hid.mk (itemKindS (wS x) wr)
  clear hk
  revert r
  refine @elim_out 54 _ ?_
  iterate 54 (intro _)
  show Code.wp _ _ _ _ _
  conv => arg 2; dsimp only [zX, zL, z0, Tryd.f4, Option.getD, sR, sL, cT, cF, bk, lpo]
  conv => arg 4; dsimp only [Fp]
  go_wp2_with (go_at_call 13; go_must (refine CK.out.mono ?_; rintro e' w' ⟨rfl, hww⟩; rw [hww]; clear hww))
  refine hn.out _ ?_
  rfl
theorem pp10B {w wr : World} {pb : Nat} {Q : Exit → Act → World → Prop} {v0 v1 iv v7 : Value} {r : List Value} (hr : r.length = 54) {x : Tk} {bt : Nat} (T1 : Hid (wr.heap[bt]? = some (.cells #[.int .i64 (kS x), .int .i64 x.v, .string ⟨(wS x).toArray⟩, .int .i64 (x.at' : Int)] 40))) (hk : kS x ≠ 1) (hn : Hid (∀ r', r'.length = 54 → Q .normal (Fp w pb v0 v1 iv (.pointer (some ⟨bt, 0, none⟩)) (.int .i64 0) v7 r') wr)) :
    Code.wp Tryd.prog (sL (sR (sR (sR zX)))) Q (Fp w pb v0 v1 iv (.pointer (some ⟨bt, 0, none⟩)) (.int .i64 0) v7 r) wr := by
  have t0 := (blk_cell T1.out 0).trans rfl
  have h1 : (kS x == 1) = false := by simp [hk]
  clear hk
  revert r
  refine @elim_out 54 _ ?_
  iterate 54 (intro _)
  show Code.wp _ _ _ _ _
  conv => arg 2; dsimp only [zX, zL, z0, Tryd.f4, Option.getD, sR, sL, cT, cF, bk, lpo]
  conv => arg 4; dsimp only [Fp]
  go_wp2_with fail
  refine hn.out _ ?_
  rfl
theorem pp12A {w wr : World} {pb : Nat} {Q : Exit → Act → World → Prop} {v0 v1 iv v5 v7 : Value} {r : List Value} (hr : r.length = 54) {A B : Code} {kz : Int} (hk : kz = 0) (hn : Hid (∀ r', r'.length = 54 → Code.wp Tryd.prog A Q (Fp w pb v0 v1 iv v5 (.int .i64 kz) v7 r') wr)) :
    Code.wp Tryd.prog (.seq (sL (sR (sR (sR (sR zX))))) (.cond (.tmp 38) A B)) Q (Fp w pb v0 v1 iv v5 (.int .i64 kz) v7 r) wr := by
  have h1 : (kz == 0) = true := by simp [hk]
  clear hk
  revert r
  refine @elim_out 54 _ ?_
  iterate 54 (intro _)
  show Code.wp _ _ _ _ _
  conv => arg 2; dsimp only [zX, zL, z0, Tryd.f4, Option.getD, sR, sL, cT, cF, bk, lpo]
  conv => arg 4; dsimp only [Fp]
  go_wp2_with fail
  refine hn.out _ ?_
  rfl
theorem pp12B {w wr : World} {pb : Nat} {Q : Exit → Act → World → Prop} {v0 v1 iv v5 v7 : Value} {r : List Value} (hr : r.length = 54) {A B : Code} {kz : Int} (hk : kz ≠ 0) (hn : Hid (∀ r', r'.length = 54 → Code.wp Tryd.prog B Q (Fp w pb v0 v1 iv v5 (.int .i64 kz) v7 r') wr)) :
    Code.wp Tryd.prog (.seq (sL (sR (sR (sR (sR zX))))) (.cond (.tmp 38) A B)) Q (Fp w pb v0 v1 iv v5 (.int .i64 kz) v7 r) wr := by
  have h1 : (kz == 0) = false := by simp [hk]
  clear hk
  revert r
  refine @elim_out 54 _ ?_
  iterate 54 (intro _)
  show Code.wp _ _ _ _ _
  conv => arg 2; dsimp only [zX, zL, z0, Tryd.f4, Option.getD, sR, sL, cT, cF, bk, lpo]
  conv => arg 4; dsimp only [Fp]
  go_wp2_with fail
  refine hn.out _ ?_
  rfl
end Go.Proofs.YtfoigigbggickaaDoor.Par
