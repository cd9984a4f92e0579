import Derived.Test.YtfoigigbggickaaDoorPq43
import Derived.Test.YtfoigigbggickaaDoorPq44
import Derived.Test.YtfoigigbggickaaDoorPq45
namespace Go.Proofs.YtfoigigbggickaaDoor.Par
open Go Go.RowKit Go.Proofs.YtfoigigbggickaaDoor.Mem Go.Proofs.YtfoigigbggickaaDoor.Syn Go.Proofs.YtfoigigbggickaaDoor.Parse
set_option linter.unusedVariables false
set_option linter.unusedSimpArgs false

theorem stepD {α β : Type} {r r' : Rs Nat} {G : Nat → Rs α} {f : Nat → α} (h : r'.bnd (fun j => Rs.ok (f j)) = r.bnd G) (H : α → Rs β) : r.bnd (fun j => (G j).bnd H) = r'.bnd (fun j => H (f j)) := by
  rw [← bnd_assoc', ← h, bnd_assoc']; rfl
theorem stepT {β : Type} {r r' : Rs Nat} {G : Nat → Rs Nat} (h : r' = r.bnd G) (H : Nat → Rs β) : r.bnd (fun j => (G j).bnd H) = r'.bnd H := by
  rw [h, bnd_assoc']
variable {t : List UInt8} {g N c : Nat} {w wr : World} {s : Sg} {v0 v3 v7 v8 v9 v10 v11 v12 : Value} {r : List Value} {PP : Ending → World → Prop}
theorem itTail {k zx zy zz : Int} {nm : ByteArray} {ea fa : Option Addr} {en ec fn fc : Nat} (hr : r.length = 122) (hT : Hid (Tq t N g w)) (hN : Hid (Nf t N)) (hi : s.i < N) (M : Mj g N c w s #[.int .i64 k, .string nm, .slice none 0 0, .slice none 0 0, .int .i64 0, .int .i64 0, .int .i64 0] wr)
    (hn : ∀ (s' : Sg) w', s'.i < N → s'.o = s.o → den (tkT t) s' = (den (tkT t) s).bnd (exp (tkT t) 3) → KR w wr w' → Below w.heap.size w w' → PP (.returned (.tuple #[s'.v g N c, .agg #[.int .i64 k, .string nm, .slice ea en ec, .slice fa fn fc, .int .i64 zx, .int .i64 zy, .int .i64 zz]])) w') :
    Code.wp Tryd.prog (.seq (sL (sR (sR (sR (sR (sR (sR (sR (sR (sR (sR (sR (sR (sR (sR (sR (sR y0))))))))))))))))) (.seq (sL (sR (sR (sR (sR (sR (sR (sR (sR (sR (sR (sR (sR (sR (sR (sR (sR (sR y0)))))))))))))))))) (.seq (sL (sR (sR (sR (sR (sR (sR (sR (sR (sR (sR (sR (sR (sR (sR (sR (sR (sR (sR y0))))))))))))))))))) (.seq (sL (sR (sR (sR (sR (sR (sR (sR (sR (sR (sR (sR (sR (sR (sR (sR (sR (sR (sR (sR y0)))))))))))))))))))) (.seq (sL (sR (sR (sR (sR (sR (sR (sR (sR (sR (sR (sR (sR (sR (sR (sR (sR (sR (sR (sR (sR y0))))))))))))))))))))) (sR (sR (sR (sR (sR (sR (sR (sR (sR (sR (sR (sR (sR (sR (sR (sR (sR (sR (sR (sR (sR y0)))))))))))))))))))))))))) (bodyPost Tryd.prog Tryd.f15 PP) (Fi w k v0 v3 v7 (.slice ea en ec) (.slice fa fn fc) (.int .i64 zx) (.int .i64 zy) (.int .i64 zz) r) wr := by
  have m1 := M.fill 2 (.slice ea en ec)
  have m2 := m1.fill 3 (.slice fa fn fc)
  have m3 := m2.fill 4 (.int .i64 zx)
  have m4 := m3.fill 5 (.int .i64 zy)
  have m5 := m4.fill 6 (.int .i64 zz)
  refine itFill hr (Hid.mk M) (Hid.mk fun r1 hr1 => ?_)
  refine itEnd41 hr1 hT hN hi (Hid.mk m5) (Hid.mk fun s' w' h1 h2 h3 h4 h5 => hn s' w' h1 h2 h3 ?_ h5)
  exact (M.kfill.trans (m1.kfill.trans (m2.kfill.trans (m3.kfill.trans m4.kfill)))).trans h4
theorem oshape {B : Nat} {w : World} {v : Value} {L : List Po} (h : OwnO B w v L) : ∃ a c, v = .slice a L.length c := by obtain ⟨a, c, e, -⟩ := row_shape h; exact ⟨_, _, e⟩
theorem itRows {wr : World} (h : Below w.heap.size w wr) : OwnO w.heap.size ((wr.alloc (.cells #[] 82)).alloc (.cells #[] 82)) (.slice (some ⟨wr.heap.size, 0, none⟩) 0 0) [] ∧ OwnO w.heap.size ((wr.alloc (.cells #[] 82)).alloc (.cells #[] 82)) (.slice (some ⟨wr.heap.size + 1, 0, none⟩) 0 0) [] := by
  have hs := h.size
  constructor
  · have := World.ownsRow_made (base := w.heap.size) (e := 82) (size := 3) wr #[] 0 (by omega) (by unfold maxLen; omega) (by simp)
    refine OwnO.below (L := []) ?_ (below_alloc' (Below.refl _ _) _)
    exact this
  · have := World.ownsRow_made (base := w.heap.size) (e := 82) (size := 3) (wr.alloc (.cells #[] 82)) #[] 0 (by simp; omega) (by unfold maxLen; omega) (by simp)
    have hz : (wr.alloc (.cells #[] 82)).heap.size = wr.heap.size + 1 := by simp
    rw [hz] at this
    exact this
theorem itK1 {nn : List UInt8} (hr : r.length = 122) (hT : Hid (Tq t N g w)) (hN : Hid (Nf t N)) (hi : s.i < N) (ho : s.o ≤ 2000) (M : Mj g N c w s #[.int .i64 1, .string ⟨nn.toArray⟩, .slice none 0 0, .slice none 0 0, .int .i64 0, .int .i64 0, .int .i64 0] wr)
    (hPP : ∀ (s' : Sg) (E F : List Po) (K lo hi : Int) (vE vF : Value) (w' : World), s'.i < N → s'.o ≤ 2000 → OwnO w.heap.size w' vE E → OwnO w.heap.size w' vF F → (den (tkT t) s').bnd (fun z => Rs.ok ((⟨1, nn, E, F, K, lo, hi⟩ : Im), z, s'.o)) = (den (tkT t) s).bnd (fun j => (pxS (tkT t) (fuelT t) j s.o).bnd fun e => (exp (tkT t) 3 e.2.1).bnd fun z => Rs.ok ((⟨1, nn, e.1, [], 0, 0, 0⟩ : Im), z, e.2.2)) → Below w.heap.size w w' → PP (.returned (.tuple #[s'.v g N c, .agg #[.int .i64 1, .string ⟨nn.toArray⟩, vE, vF, .int .i64 K, .int .i64 lo, .int .i64 hi]])) w') :
    Code.wp Tryd.prog (.seq (sL (sR (sR (sR (sR y0))))) (.seq (sL (sR (sR (sR (sR (sR y0)))))) (.seq (sL (sR (sR (sR (sR (sR (sR y0))))))) (.seq (sL (sR (sR (sR (sR (sR (sR (sR y0)))))))) (.seq (sL (sR (sR (sR (sR (sR (sR (sR (sR y0))))))))) (.seq (sL (sR (sR (sR (sR (sR (sR (sR (sR (sR y0)))))))))) (.seq (sL (sR (sR (sR (sR (sR (sR (sR (sR (sR (sR y0))))))))))) (.seq (sL (sR (sR (sR (sR (sR (sR (sR (sR (sR (sR (sR y0)))))))))))) (.seq (sL (sR (sR (sR (sR (sR (sR (sR (sR (sR (sR (sR (sR y0))))))))))))) (.seq (sL (sR (sR (sR (sR (sR (sR (sR (sR (sR (sR (sR (sR (sR y0)))))))))))))) (.seq (sL (sR (sR (sR (sR (sR (sR (sR (sR (sR (sR (sR (sR (sR (sR y0))))))))))))))) (.seq (sL (sR (sR (sR (sR (sR (sR (sR (sR (sR (sR (sR (sR (sR (sR (sR y0)))))))))))))))) (.seq (sL (sR (sR (sR (sR (sR (sR (sR (sR (sR (sR (sR (sR (sR (sR (sR (sR y0))))))))))))))))) (.seq (sL (sR (sR (sR (sR (sR (sR (sR (sR (sR (sR (sR (sR (sR (sR (sR (sR (sR y0)))))))))))))))))) (.seq (sL (sR (sR (sR (sR (sR (sR (sR (sR (sR (sR (sR (sR (sR (sR (sR (sR (sR (sR y0))))))))))))))))))) (.seq (sL (sR (sR (sR (sR (sR (sR (sR (sR (sR (sR (sR (sR (sR (sR (sR (sR (sR (sR (sR y0)))))))))))))))))))) (.seq (sL (sR (sR (sR (sR (sR (sR (sR (sR (sR (sR (sR (sR (sR (sR (sR (sR (sR (sR (sR (sR y0))))))))))))))))))))) (sR (sR (sR (sR (sR (sR (sR (sR (sR (sR (sR (sR (sR (sR (sR (sR (sR (sR (sR (sR (sR y0)))))))))))))))))))))))))))))))))))))) (bodyPost Tryd.prog Tryd.f15 PP) (Fi w 1 v0 v3 v7 v8 v9 v10 v11 v12 r) wr := by
  obtain ⟨E0, F0⟩ := itRows M.bel
  refine itInit hr (Hid.mk fun r0 hr0 => ?_)
  have M0 := M.below (below_alloc' (below_alloc' (Below.refl _ _) (.cells #[] 82)) (.cells #[] 82))
  refine wp_seq (itC9A hr0 (by decide) (Hid.mk fun r1 hr1 => ?_))
  refine itExpr16 hr1 hT hN hi (Hid.mk M0) ho (Hid.mk fun r2 s2 v2 L2 w2 hr2 hi2 ho2 hd2 hO2 M2 K2 => ?_)
  have F2 := K2 _ _ F0
  refine wp_seq (itC10B hr2 (by decide) (Hid.mk fun r3 hr3 => wp_skip ?_))
  refine wp_seq (itC11B hr3 (by decide) (Hid.mk fun r4 hr4 => wp_skip ?_))
  refine wp_seq (itC12B hr4 (by decide) (Hid.mk fun r5 hr5 => wp_skip ?_))
  refine wp_seq (itC13B hr5 (by decide) (Hid.mk fun r6 hr6 => wp_skip ?_))
  refine wp_seq (itC14B hr6 (by decide) (Hid.mk fun r7 hr7 => wp_skip ?_))
  refine wp_seq (itC15B hr7 (by decide) (Hid.mk fun r8 hr8 => wp_skip ?_))
  obtain ⟨ea, ec, hE⟩ := oshape hO2
  obtain ⟨fa, fc, hF⟩ := oshape F2
  subst hE
  have hoF : s2.o ≤ 2000 := by exact ho2
  refine itTail hr8 hT hN hi2 M2 (fun s' w' h1 h2 h3 h4 h5 => ?_)
  refine hPP s' _ _ _ _ _ _ _ w' h1 (by rw [h2]; exact hoF) (h4 _ _ hO2) (h4 _ _ F2) ?_ h5
  refine Eq.symm ?_
  refine (stepD hd2 _).trans ?_
  try dsimp only
  refine (stepT h3 _).trans ?_
  rw [h2]
theorem itK2 {nn : List UInt8} (hr : r.length = 122) (hT : Hid (Tq t N g w)) (hN : Hid (Nf t N)) (hi : s.i < N) (ho : s.o ≤ 2000) (M : Mj g N c w s #[.int .i64 2, .string ⟨nn.toArray⟩, .slice none 0 0, .slice none 0 0, .int .i64 0, .int .i64 0, .int .i64 0] wr)
    (hPP : ∀ (s' : Sg) (E F : List Po) (K lo hi : Int) (vE vF : Value) (w' : World), s'.i < N → s'.o ≤ 2000 → OwnO w.heap.size w' vE E → OwnO w.heap.size w' vF F → (den (tkT t) s').bnd (fun z => Rs.ok ((⟨2, nn, E, F, K, lo, hi⟩ : Im), z, s'.o)) = (den (tkT t) s).bnd (fun j => (pxS (tkT t) (fuelT t) j s.o).bnd fun e => (exp (tkT t) 3 e.2.1).bnd fun z => Rs.ok ((⟨2, nn, e.1, [], 0, 0, 0⟩ : Im), z, e.2.2)) → Below w.heap.size w w' → PP (.returned (.tuple #[s'.v g N c, .agg #[.int .i64 2, .string ⟨nn.toArray⟩, vE, vF, .int .i64 K, .int .i64 lo, .int .i64 hi]])) w') :
    Code.wp Tryd.prog (.seq (sL (sR (sR (sR (sR y0))))) (.seq (sL (sR (sR (sR (sR (sR y0)))))) (.seq (sL (sR (sR (sR (sR (sR (sR y0))))))) (.seq (sL (sR (sR (sR (sR (sR (sR (sR y0)))))))) (.seq (sL (sR (sR (sR (sR (sR (sR (sR (sR y0))))))))) (.seq (sL (sR (sR (sR (sR (sR (sR (sR (sR (sR y0)))))))))) (.seq (sL (sR (sR (sR (sR (sR (sR (sR (sR (sR (sR y0))))))))))) (.seq (sL (sR (sR (sR (sR (sR (sR (sR (sR (sR (sR (sR y0)))))))))))) (.seq (sL (sR (sR (sR (sR (sR (sR (sR (sR (sR (sR (sR (sR y0))))))))))))) (.seq (sL (sR (sR (sR (sR (sR (sR (sR (sR (sR (sR (sR (sR (sR y0)))))))))))))) (.seq (sL (sR (sR (sR (sR (sR (sR (sR (sR (sR (sR (sR (sR (sR (sR y0))))))))))))))) (.seq (sL (sR (sR (sR (sR (sR (sR (sR (sR (sR (sR (sR (sR (sR (sR (sR y0)))))))))))))))) (.seq (sL (sR (sR (sR (sR (sR (sR (sR (sR (sR (sR (sR (sR (sR (sR (sR (sR y0))))))))))))))))) (.seq (sL (sR (sR (sR (sR (sR (sR (sR (sR (sR (sR (sR (sR (sR (sR (sR (sR (sR y0)))))))))))))))))) (.seq (sL (sR (sR (sR (sR (sR (sR (sR (sR (sR (sR (sR (sR (sR (sR (sR (sR (sR (sR y0))))))))))))))))))) (.seq (sL (sR (sR (sR (sR (sR (sR (sR (sR (sR (sR (sR (sR (sR (sR (sR (sR (sR (sR (sR y0)))))))))))))))))))) (.seq (sL (sR (sR (sR (sR (sR (sR (sR (sR (sR (sR (sR (sR (sR (sR (sR (sR (sR (sR (sR (sR y0))))))))))))))))))))) (sR (sR (sR (sR (sR (sR (sR (sR (sR (sR (sR (sR (sR (sR (sR (sR (sR (sR (sR (sR (sR y0)))))))))))))))))))))))))))))))))))))) (bodyPost Tryd.prog Tryd.f15 PP) (Fi w 2 v0 v3 v7 v8 v9 v10 v11 v12 r) wr := by
  obtain ⟨E0, F0⟩ := itRows M.bel
  refine itInit hr (Hid.mk fun r0 hr0 => ?_)
  have M0 := M.below (below_alloc' (below_alloc' (Below.refl _ _) (.cells #[] 82)) (.cells #[] 82))
  refine wp_seq (itC9A hr0 (by decide) (Hid.mk fun r1 hr1 => ?_))
  refine itExpr16 hr1 hT hN hi (Hid.mk M0) ho (Hid.mk fun r2 s2 v2 L2 w2 hr2 hi2 ho2 hd2 hO2 M2 K2 => ?_)
  have F2 := K2 _ _ F0
  refine wp_seq (itC10B hr2 (by decide) (Hid.mk fun r3 hr3 => wp_skip ?_))
  refine wp_seq (itC11B hr3 (by decide) (Hid.mk fun r4 hr4 => wp_skip ?_))
  refine wp_seq (itC12B hr4 (by decide) (Hid.mk fun r5 hr5 => wp_skip ?_))
  refine wp_seq (itC13B hr5 (by decide) (Hid.mk fun r6 hr6 => wp_skip ?_))
  refine wp_seq (itC14B hr6 (by decide) (Hid.mk fun r7 hr7 => wp_skip ?_))
  refine wp_seq (itC15B hr7 (by decide) (Hid.mk fun r8 hr8 => wp_skip ?_))
  obtain ⟨ea, ec, hE⟩ := oshape hO2
  obtain ⟨fa, fc, hF⟩ := oshape F2
  subst hE
  have hoF : s2.o ≤ 2000 := by exact ho2
  refine itTail hr8 hT hN hi2 M2 (fun s' w' h1 h2 h3 h4 h5 => ?_)
  refine hPP s' _ _ _ _ _ _ _ w' h1 (by rw [h2]; exact hoF) (h4 _ _ hO2) (h4 _ _ F2) ?_ h5
  refine Eq.symm ?_
  refine (stepD hd2 _).trans ?_
  try dsimp only
  refine (stepT h3 _).trans ?_
  rw [h2]
theorem itK3 {nn : List UInt8} (hr : r.length = 122) (hT : Hid (Tq t N g w)) (hN : Hid (Nf t N)) (hi : s.i < N) (ho : s.o ≤ 2000) (M : Mj g N c w s #[.int .i64 3, .string ⟨nn.toArray⟩, .slice none 0 0, .slice none 0 0, .int .i64 0, .int .i64 0, .int .i64 0] wr)
    (hPP : ∀ (s' : Sg) (E F : List Po) (K lo hi : Int) (vE vF : Value) (w' : World), s'.i < N → s'.o ≤ 2000 → OwnO w.heap.size w' vE E → OwnO w.heap.size w' vF F → (den (tkT t) s').bnd (fun z => Rs.ok ((⟨3, nn, E, F, K, lo, hi⟩ : Im), z, s'.o)) = (den (tkT t) s).bnd (fun j => (pxS (tkT t) (fuelT t) j s.o).bnd fun e => (exp (tkT t) 3 e.2.1).bnd fun z => Rs.ok ((⟨3, nn, e.1, [], 0, 0, 0⟩ : Im), z, e.2.2)) → Below w.heap.size w w' → PP (.returned (.tuple #[s'.v g N c, .agg #[.int .i64 3, .string ⟨nn.toArray⟩, vE, vF, .int .i64 K, .int .i64 lo, .int .i64 hi]])) w') :
    Code.wp Tryd.prog (.seq (sL (sR (sR (sR (sR y0))))) (.seq (sL (sR (sR (sR (sR (sR y0)))))) (.seq (sL (sR (sR (sR (sR (sR (sR y0))))))) (.seq (sL (sR (sR (sR (sR (sR (sR (sR y0)))))))) (.seq (sL (sR (sR (sR (sR (sR (sR (sR (sR y0))))))))) (.seq (sL (sR (sR (sR (sR (sR (sR (sR (sR (sR y0)))))))))) (.seq (sL (sR (sR (sR (sR (sR (sR (sR (sR (sR (sR y0))))))))))) (.seq (sL (sR (sR (sR (sR (sR (sR (sR (sR (sR (sR (sR y0)))))))))))) (.seq (sL (sR (sR (sR (sR (sR (sR (sR (sR (sR (sR (sR (sR y0))))))))))))) (.seq (sL (sR (sR (sR (sR (sR (sR (sR (sR (sR (sR (sR (sR (sR y0)))))))))))))) (.seq (sL (sR (sR (sR (sR (sR (sR (sR (sR (sR (sR (sR (sR (sR (sR y0))))))))))))))) (.seq (sL (sR (sR (sR (sR (sR (sR (sR (sR (sR (sR (sR (sR (sR (sR (sR y0)))))))))))))))) (.seq (sL (sR (sR (sR (sR (sR (sR (sR (sR (sR (sR (sR (sR (sR (sR (sR (sR y0))))))))))))))))) (.seq (sL (sR (sR (sR (sR (sR (sR (sR (sR (sR (sR (sR (sR (sR (sR (sR (sR (sR y0)))))))))))))))))) (.seq (sL (sR (sR (sR (sR (sR (sR (sR (sR (sR (sR (sR (sR (sR (sR (sR (sR (sR (sR y0))))))))))))))))))) (.seq (sL (sR (sR (sR (sR (sR (sR (sR (sR (sR (sR (sR (sR (sR (sR (sR (sR (sR (sR (sR y0)))))))))))))))))))) (.seq (sL (sR (sR (sR (sR (sR (sR (sR (sR (sR (sR (sR (sR (sR (sR (sR (sR (sR (sR (sR (sR y0))))))))))))))))))))) (sR (sR (sR (sR (sR (sR (sR (sR (sR (sR (sR (sR (sR (sR (sR (sR (sR (sR (sR (sR (sR y0)))))))))))))))))))))))))))))))))))))) (bodyPost Tryd.prog Tryd.f15 PP) (Fi w 3 v0 v3 v7 v8 v9 v10 v11 v12 r) wr := by
  obtain ⟨E0, F0⟩ := itRows M.bel
  refine itInit hr (Hid.mk fun r0 hr0 => ?_)
  have M0 := M.below (below_alloc' (below_alloc' (Below.refl _ _) (.cells #[] 82)) (.cells #[] 82))
  refine wp_seq (itC9A hr0 (by decide) (Hid.mk fun r1 hr1 => ?_))
  refine itExpr16 hr1 hT hN hi (Hid.mk M0) ho (Hid.mk fun r2 s2 v2 L2 w2 hr2 hi2 ho2 hd2 hO2 M2 K2 => ?_)
  have F2 := K2 _ _ F0
  refine wp_seq (itC10B hr2 (by decide) (Hid.mk fun r3 hr3 => wp_skip ?_))
  refine wp_seq (itC11B hr3 (by decide) (Hid.mk fun r4 hr4 => wp_skip ?_))
  refine wp_seq (itC12B hr4 (by decide) (Hid.mk fun r5 hr5 => wp_skip ?_))
  refine wp_seq (itC13B hr5 (by decide) (Hid.mk fun r6 hr6 => wp_skip ?_))
  refine wp_seq (itC14B hr6 (by decide) (Hid.mk fun r7 hr7 => wp_skip ?_))
  refine wp_seq (itC15B hr7 (by decide) (Hid.mk fun r8 hr8 => wp_skip ?_))
  obtain ⟨ea, ec, hE⟩ := oshape hO2
  obtain ⟨fa, fc, hF⟩ := oshape F2
  subst hE
  have hoF : s2.o ≤ 2000 := by exact ho2
  refine itTail hr8 hT hN hi2 M2 (fun s' w' h1 h2 h3 h4 h5 => ?_)
  refine hPP s' _ _ _ _ _ _ _ w' h1 (by rw [h2]; exact hoF) (h4 _ _ hO2) (h4 _ _ F2) ?_ h5
  refine Eq.symm ?_
  refine (stepD hd2 _).trans ?_
  try dsimp only
  refine (stepT h3 _).trans ?_
  rw [h2]
theorem itK4 {nn : List UInt8} (hr : r.length = 122) (hT : Hid (Tq t N g w)) (hN : Hid (Nf t N)) (hi : s.i < N) (ho : s.o ≤ 2000) (M : Mj g N c w s #[.int .i64 4, .string ⟨nn.toArray⟩, .slice none 0 0, .slice none 0 0, .int .i64 0, .int .i64 0, .int .i64 0] wr)
    (hPP : ∀ (s' : Sg) (E F : List Po) (K lo hi : Int) (vE vF : Value) (w' : World), s'.i < N → s'.o ≤ 2000 → OwnO w.heap.size w' vE E → OwnO w.heap.size w' vF F → (den (tkT t) s').bnd (fun z => Rs.ok ((⟨4, nn, E, F, K, lo, hi⟩ : Im), z, s'.o)) = (den (tkT t) s).bnd (fun j => (pxS (tkT t) (fuelT t) j s.o).bnd fun e => (exp (tkT t) 43 e.2.1).bnd fun j1 => (sgnP (tkT t) j1).bnd fun x => (exp (tkT t) 44 x.2).bnd fun j2 => (sgnP (tkT t) j2).bnd fun y => (exp (tkT t) 7 y.2).bnd fun j3 => (sgnP (tkT t) j3).bnd fun y2 => (exp (tkT t) 3 y2.2).bnd fun z => Rs.ok ((⟨4, nn, e.1, [], x.1, y.1, y2.1⟩ : Im), z, e.2.2)) → Below w.heap.size w w' → PP (.returned (.tuple #[s'.v g N c, .agg #[.int .i64 4, .string ⟨nn.toArray⟩, vE, vF, .int .i64 K, .int .i64 lo, .int .i64 hi]])) w') :
    Code.wp Tryd.prog (.seq (sL (sR (sR (sR (sR y0))))) (.seq (sL (sR (sR (sR (sR (sR y0)))))) (.seq (sL (sR (sR (sR (sR (sR (sR y0))))))) (.seq (sL (sR (sR (sR (sR (sR (sR (sR y0)))))))) (.seq (sL (sR (sR (sR (sR (sR (sR (sR (sR y0))))))))) (.seq (sL (sR (sR (sR (sR (sR (sR (sR (sR (sR y0)))))))))) (.seq (sL (sR (sR (sR (sR (sR (sR (sR (sR (sR (sR y0))))))))))) (.seq (sL (sR (sR (sR (sR (sR (sR (sR (sR (sR (sR (sR y0)))))))))))) (.seq (sL (sR (sR (sR (sR (sR (sR (sR (sR (sR (sR (sR (sR y0))))))))))))) (.seq (sL (sR (sR (sR (sR (sR (sR (sR (sR (sR (sR (sR (sR (sR y0)))))))))))))) (.seq (sL (sR (sR (sR (sR (sR (sR (sR (sR (sR (sR (sR (sR (sR (sR y0))))))))))))))) (.seq (sL (sR (sR (sR (sR (sR (sR (sR (sR (sR (sR (sR (sR (sR (sR (sR y0)))))))))))))))) (.seq (sL (sR (sR (sR (sR (sR (sR (sR (sR (sR (sR (sR (sR (sR (sR (sR (sR y0))))))))))))))))) (.seq (sL (sR (sR (sR (sR (sR (sR (sR (sR (sR (sR (sR (sR (sR (sR (sR (sR (sR y0)))))))))))))))))) (.seq (sL (sR (sR (sR (sR (sR (sR (sR (sR (sR (sR (sR (sR (sR (sR (sR (sR (sR (sR y0))))))))))))))))))) (.seq (sL (sR (sR (sR (sR (sR (sR (sR (sR (sR (sR (sR (sR (sR (sR (sR (sR (sR (sR (sR y0)))))))))))))))))))) (.seq (sL (sR (sR (sR (sR (sR (sR (sR (sR (sR (sR (sR (sR (sR (sR (sR (sR (sR (sR (sR (sR y0))))))))))))))))))))) (sR (sR (sR (sR (sR (sR (sR (sR (sR (sR (sR (sR (sR (sR (sR (sR (sR (sR (sR (sR (sR y0)))))))))))))))))))))))))))))))))))))) (bodyPost Tryd.prog Tryd.f15 PP) (Fi w 4 v0 v3 v7 v8 v9 v10 v11 v12 r) wr := by
  obtain ⟨E0, F0⟩ := itRows M.bel
  refine itInit hr (Hid.mk fun r0 hr0 => ?_)
  have M0 := M.below (below_alloc' (below_alloc' (Below.refl _ _) (.cells #[] 82)) (.cells #[] 82))
  refine wp_seq (itC9A hr0 (by decide) (Hid.mk fun r1 hr1 => ?_))
  refine itExpr16 hr1 hT hN hi (Hid.mk M0) ho (Hid.mk fun r2 s2 v2 L2 w2 hr2 hi2 ho2 hd2 hO2 M2 K2 => ?_)
  have F2 := K2 _ _ F0
  refine wp_seq (itC10A hr2 (by decide) (Hid.mk fun r3 hr3 => ?_))
  show Code.wp _ yFR _ _ _
  rw [yFR_eq]
  refine wp_seq (itTake18 hr3 hT hN hi2 (Hid.mk M2) (Hid.mk fun r4 s4 w4 hr4 hi4 ho4 hd4 M4 K4 => ?_))
  have E4 := K4 _ _ hO2
  have F4 := K4 _ _ F2
  refine itNum19 hr4 hT hN hi4 (Hid.mk M4) (Hid.mk fun r5 s5 x5 w5 hr5 hi5 ho5 hd5 M5 K5 => ?_)
  have E5 := K5 _ _ E4
  have F5 := K5 _ _ F4
  refine wp_seq (itC11A hr5 (by decide) (Hid.mk fun r6 hr6 => ?_))
  show Code.wp _ yIN _ _ _
  rw [yIN_eq]
  refine wp_seq (itTake21 hr6 hT hN hi5 (Hid.mk M5) (Hid.mk fun r7 s7 w7 hr7 hi7 ho7 hd7 M7 K7 => ?_))
  have E7 := K7 _ _ E5
  have F7 := K7 _ _ F5
  refine wp_seq (itNum22 hr7 hT hN hi7 (Hid.mk M7) (Hid.mk fun r8 s8 x8 w8 hr8 hi8 ho8 hd8 M8 K8 => ?_))
  have E8 := K8 _ _ E7
  have F8 := K8 _ _ F7
  refine wp_seq (itTake23 hr8 hT hN hi8 (Hid.mk M8) (Hid.mk fun r9 s9 w9 hr9 hi9 ho9 hd9 M9 K9 => ?_))
  have E9 := K9 _ _ E8
  have F9 := K9 _ _ F8
  refine itNum24 hr9 hT hN hi9 (Hid.mk M9) (Hid.mk fun r10 s10 x10 w10 hr10 hi10 ho10 hd10 M10 K10 => ?_)
  have E10 := K10 _ _ E9
  have F10 := K10 _ _ F9
  refine wp_seq (itC12B hr10 (by decide) (Hid.mk fun r11 hr11 => wp_skip ?_))
  refine wp_seq (itC13B hr11 (by decide) (Hid.mk fun r12 hr12 => wp_skip ?_))
  refine wp_seq (itC14B hr12 (by decide) (Hid.mk fun r13 hr13 => wp_skip ?_))
  refine wp_seq (itC15B hr13 (by decide) (Hid.mk fun r14 hr14 => wp_skip ?_))
  obtain ⟨ea, ec, hE⟩ := oshape E10
  obtain ⟨fa, fc, hF⟩ := oshape F10
  subst hE
  have hoF : s10.o ≤ 2000 := by rw [ho10, ho9, ho8, ho7, ho5, ho4]; exact ho2
  refine itTail hr14 hT hN hi10 M10 (fun s' w' h1 h2 h3 h4 h5 => ?_)
  refine hPP s' _ _ _ _ _ _ _ w' h1 (by rw [h2]; exact hoF) (h4 _ _ E10) (h4 _ _ F10) ?_ h5
  refine Eq.symm ?_
  refine (stepD hd2 _).trans ?_
  try dsimp only
  refine (stepT hd4 _).trans ?_
  try dsimp only
  refine (stepD hd5 _).trans ?_
  try dsimp only
  refine (stepT hd7 _).trans ?_
  try dsimp only
  refine (stepD hd8 _).trans ?_
  try dsimp only
  refine (stepT hd9 _).trans ?_
  try dsimp only
  refine (stepD hd10 _).trans ?_
  try dsimp only
  refine (stepT h3 _).trans ?_
  rw [h2, ho10, ho9, ho8, ho7, ho5, ho4]
theorem itK5 {nn : List UInt8} (hr : r.length = 122) (hT : Hid (Tq t N g w)) (hN : Hid (Nf t N)) (hi : s.i < N) (ho : s.o ≤ 2000) (M : Mj g N c w s #[.int .i64 5, .string ⟨nn.toArray⟩, .slice none 0 0, .slice none 0 0, .int .i64 0, .int .i64 0, .int .i64 0] wr)
    (hPP : ∀ (s' : Sg) (E F : List Po) (K lo hi : Int) (vE vF : Value) (w' : World), s'.i < N → s'.o ≤ 2000 → OwnO w.heap.size w' vE E → OwnO w.heap.size w' vF F → (den (tkT t) s').bnd (fun z => Rs.ok ((⟨5, nn, E, F, K, lo, hi⟩ : Im), z, s'.o)) = (den (tkT t) s).bnd (fun j => (pxS (tkT t) (fuelT t) j s.o).bnd fun e => (exp (tkT t) 45 e.2.1).bnd fun j1 => (pxS (tkT t) (fuelT t) j1 e.2.2).bnd fun f => (exp (tkT t) 3 f.2.1).bnd fun z => Rs.ok ((⟨5, nn, e.1, f.1, 0, 0, 0⟩ : Im), z, f.2.2)) → Below w.heap.size w w' → PP (.returned (.tuple #[s'.v g N c, .agg #[.int .i64 5, .string ⟨nn.toArray⟩, vE, vF, .int .i64 K, .int .i64 lo, .int .i64 hi]])) w') :
    Code.wp Tryd.prog (.seq (sL (sR (sR (sR (sR y0))))) (.seq (sL (sR (sR (sR (sR (sR y0)))))) (.seq (sL (sR (sR (sR (sR (sR (sR y0))))))) (.seq (sL (sR (sR (sR (sR (sR (sR (sR y0)))))))) (.seq (sL (sR (sR (sR (sR (sR (sR (sR (sR y0))))))))) (.seq (sL (sR (sR (sR (sR (sR (sR (sR (sR (sR y0)))))))))) (.seq (sL (sR (sR (sR (sR (sR (sR (sR (sR (sR (sR y0))))))))))) (.seq (sL (sR (sR (sR (sR (sR (sR (sR (sR (sR (sR (sR y0)))))))))))) (.seq (sL (sR (sR (sR (sR (sR (sR (sR (sR (sR (sR (sR (sR y0))))))))))))) (.seq (sL (sR (sR (sR (sR (sR (sR (sR (sR (sR (sR (sR (sR (sR y0)))))))))))))) (.seq (sL (sR (sR (sR (sR (sR (sR (sR (sR (sR (sR (sR (sR (sR (sR y0))))))))))))))) (.seq (sL (sR (sR (sR (sR (sR (sR (sR (sR (sR (sR (sR (sR (sR (sR (sR y0)))))))))))))))) (.seq (sL (sR (sR (sR (sR (sR (sR (sR (sR (sR (sR (sR (sR (sR (sR (sR (sR y0))))))))))))))))) (.seq (sL (sR (sR (sR (sR (sR (sR (sR (sR (sR (sR (sR (sR (sR (sR (sR (sR (sR y0)))))))))))))))))) (.seq (sL (sR (sR (sR (sR (sR (sR (sR (sR (sR (sR (sR (sR (sR (sR (sR (sR (sR (sR y0))))))))))))))))))) (.seq (sL (sR (sR (sR (sR (sR (sR (sR (sR (sR (sR (sR (sR (sR (sR (sR (sR (sR (sR (sR y0)))))))))))))))))))) (.seq (sL (sR (sR (sR (sR (sR (sR (sR (sR (sR (sR (sR (sR (sR (sR (sR (sR (sR (sR (sR (sR y0))))))))))))))))))))) (sR (sR (sR (sR (sR (sR (sR (sR (sR (sR (sR (sR (sR (sR (sR (sR (sR (sR (sR (sR (sR y0)))))))))))))))))))))))))))))))))))))) (bodyPost Tryd.prog Tryd.f15 PP) (Fi w 5 v0 v3 v7 v8 v9 v10 v11 v12 r) wr := by
  obtain ⟨E0, F0⟩ := itRows M.bel
  refine itInit hr (Hid.mk fun r0 hr0 => ?_)
  have M0 := M.below (below_alloc' (below_alloc' (Below.refl _ _) (.cells #[] 82)) (.cells #[] 82))
  refine wp_seq (itC9A hr0 (by decide) (Hid.mk fun r1 hr1 => ?_))
  refine itExpr16 hr1 hT hN hi (Hid.mk M0) ho (Hid.mk fun r2 s2 v2 L2 w2 hr2 hi2 ho2 hd2 hO2 M2 K2 => ?_)
  have F2 := K2 _ _ F0
  refine wp_seq (itC10B hr2 (by decide) (Hid.mk fun r3 hr3 => wp_skip ?_))
  refine wp_seq (itC11B hr3 (by decide) (Hid.mk fun r4 hr4 => wp_skip ?_))
  refine wp_seq (itC12A hr4 (by decide) (Hid.mk fun r5 hr5 => ?_))
  show Code.wp _ yTH _ _ _
  rw [yTH_eq]
  refine wp_seq (itTake26 hr5 hT hN hi2 (Hid.mk M2) (Hid.mk fun r6 s6 w6 hr6 hi6 ho6 hd6 M6 K6 => ?_))
  have E6 := K6 _ _ hO2
  have F6 := K6 _ _ F2
  have hoo7 : s6.o ≤ 2000 := by rw [ho6]; exact ho2
  refine itExpr27 hr6 hT hN hi6 (Hid.mk M6) hoo7 (Hid.mk fun r7 s7 v7 L7 w7 hr7 hi7 ho7 hd7 hO7 M7 K7 => ?_)
  have E7 := K7 _ _ E6
  refine wp_seq (itC13B hr7 (by decide) (Hid.mk fun r8 hr8 => wp_skip ?_))
  refine wp_seq (itC14B hr8 (by decide) (Hid.mk fun r9 hr9 => wp_skip ?_))
  refine wp_seq (itC15B hr9 (by decide) (Hid.mk fun r10 hr10 => wp_skip ?_))
  obtain ⟨ea, ec, hE⟩ := oshape E7
  obtain ⟨fa, fc, hF⟩ := oshape hO7
  subst hE
  subst hF
  have hoF : s7.o ≤ 2000 := by exact ho7
  refine itTail hr10 hT hN hi7 M7 (fun s' w' h1 h2 h3 h4 h5 => ?_)
  refine hPP s' _ _ _ _ _ _ _ w' h1 (by rw [h2]; exact hoF) (h4 _ _ E7) (h4 _ _ hO7) ?_ h5
  refine Eq.symm ?_
  refine (stepD hd2 _).trans ?_
  try dsimp only
  refine (stepT hd6 _).trans ?_
  try dsimp only
  try dsimp only
  rw [← ho6]
  refine (stepD hd7 _).trans ?_
  try dsimp only
  refine (stepT h3 _).trans ?_
  rw [h2]
theorem itK6 {nn : List UInt8} (hr : r.length = 122) (hT : Hid (Tq t N g w)) (hN : Hid (Nf t N)) (hi : s.i < N) (ho : s.o ≤ 2000) (M : Mj g N c w s #[.int .i64 6, .string ⟨nn.toArray⟩, .slice none 0 0, .slice none 0 0, .int .i64 0, .int .i64 0, .int .i64 0] wr)
    (hPP : ∀ (s' : Sg) (E F : List Po) (K lo hi : Int) (vE vF : Value) (w' : World), s'.i < N → s'.o ≤ 2000 → OwnO w.heap.size w' vE E → OwnO w.heap.size w' vF F → (den (tkT t) s').bnd (fun z => Rs.ok ((⟨6, nn, E, F, K, lo, hi⟩ : Im), z, s'.o)) = (den (tkT t) s).bnd (fun j => (tagP (tkT t) j).bnd fun x => (tagP (tkT t) x.2).bnd fun y => (exp (tkT t) 3 y.2).bnd fun z => Rs.ok ((⟨6, nn, [], [], x.1, y.1, 0⟩ : Im), z, s.o)) → Below w.heap.size w w' → PP (.returned (.tuple #[s'.v g N c, .agg #[.int .i64 6, .string ⟨nn.toArray⟩, vE, vF, .int .i64 K, .int .i64 lo, .int .i64 hi]])) w') :
    Code.wp Tryd.prog (.seq (sL (sR (sR (sR (sR y0))))) (.seq (sL (sR (sR (sR (sR (sR y0)))))) (.seq (sL (sR (sR (sR (sR (sR (sR y0))))))) (.seq (sL (sR (sR (sR (sR (sR (sR (sR y0)))))))) (.seq (sL (sR (sR (sR (sR (sR (sR (sR (sR y0))))))))) (.seq (sL (sR (sR (sR (sR (sR (sR (sR (sR (sR y0)))))))))) (.seq (sL (sR (sR (sR (sR (sR (sR (sR (sR (sR (sR y0))))))))))) (.seq (sL (sR (sR (sR (sR (sR (sR (sR (sR (sR (sR (sR y0)))))))))))) (.seq (sL (sR (sR (sR (sR (sR (sR (sR (sR (sR (sR (sR (sR y0))))))))))))) (.seq (sL (sR (sR (sR (sR (sR (sR (sR (sR (sR (sR (sR (sR (sR y0)))))))))))))) (.seq (sL (sR (sR (sR (sR (sR (sR (sR (sR (sR (sR (sR (sR (sR (sR y0))))))))))))))) (.seq (sL (sR (sR (sR (sR (sR (sR (sR (sR (sR (sR (sR (sR (sR (sR (sR y0)))))))))))))))) (.seq (sL (sR (sR (sR (sR (sR (sR (sR (sR (sR (sR (sR (sR (sR (sR (sR (sR y0))))))))))))))))) (.seq (sL (sR (sR (sR (sR (sR (sR (sR (sR (sR (sR (sR (sR (sR (sR (sR (sR (sR y0)))))))))))))))))) (.seq (sL (sR (sR (sR (sR (sR (sR (sR (sR (sR (sR (sR (sR (sR (sR (sR (sR (sR (sR y0))))))))))))))))))) (.seq (sL (sR (sR (sR (sR (sR (sR (sR (sR (sR (sR (sR (sR (sR (sR (sR (sR (sR (sR (sR y0)))))))))))))))))))) (.seq (sL (sR (sR (sR (sR (sR (sR (sR (sR (sR (sR (sR (sR (sR (sR (sR (sR (sR (sR (sR (sR y0))))))))))))))))))))) (sR (sR (sR (sR (sR (sR (sR (sR (sR (sR (sR (sR (sR (sR (sR (sR (sR (sR (sR (sR (sR y0)))))))))))))))))))))))))))))))))))))) (bodyPost Tryd.prog Tryd.f15 PP) (Fi w 6 v0 v3 v7 v8 v9 v10 v11 v12 r) wr := by
  obtain ⟨E0, F0⟩ := itRows M.bel
  refine itInit hr (Hid.mk fun r0 hr0 => ?_)
  have M0 := M.below (below_alloc' (below_alloc' (Below.refl _ _) (.cells #[] 82)) (.cells #[] 82))
  refine wp_seq (itC9B hr0 (by decide) (Hid.mk fun r1 hr1 => wp_skip ?_))
  refine wp_seq (itC10B hr1 (by decide) (Hid.mk fun r2 hr2 => wp_skip ?_))
  refine wp_seq (itC11B hr2 (by decide) (Hid.mk fun r3 hr3 => wp_skip ?_))
  refine wp_seq (itC12B hr3 (by decide) (Hid.mk fun r4 hr4 => wp_skip ?_))
  refine wp_seq (itC13A hr4 (by decide) (Hid.mk fun r5 hr5 => ?_))
  show Code.wp _ yAP _ _ _
  rw [yAP_eq]
  refine wp_seq (itTag29 hr5 hT hN hi (Hid.mk M0) (Hid.mk fun r6 s6 x6 w6 hr6 hi6 ho6 hd6 M6 K6 => ?_))
  have E6 := K6 _ _ E0
  have F6 := K6 _ _ F0
  refine itTag30 hr6 hT hN hi6 (Hid.mk M6) (Hid.mk fun r7 s7 x7 w7 hr7 hi7 ho7 hd7 M7 K7 => ?_)
  have E7 := K7 _ _ E6
  have F7 := K7 _ _ F6
  refine wp_seq (itC14B hr7 (by decide) (Hid.mk fun r8 hr8 => wp_skip ?_))
  refine wp_seq (itC15B hr8 (by decide) (Hid.mk fun r9 hr9 => wp_skip ?_))
  obtain ⟨ea, ec, hE⟩ := oshape E7
  obtain ⟨fa, fc, hF⟩ := oshape F7
  have hoF : s7.o ≤ 2000 := by rw [ho7, ho6]; exact ho
  refine itTail hr9 hT hN hi7 M7 (fun s' w' h1 h2 h3 h4 h5 => ?_)
  refine hPP s' _ _ _ _ _ _ _ w' h1 (by rw [h2]; exact hoF) (h4 _ _ E7) (h4 _ _ F7) ?_ h5
  refine Eq.symm ?_
  refine (stepD hd6 _).trans ?_
  try dsimp only
  refine (stepD hd7 _).trans ?_
  try dsimp only
  refine (stepT h3 _).trans ?_
  rw [h2, ho7, ho6]
theorem itK7 {nn : List UInt8} (hr : r.length = 122) (hT : Hid (Tq t N g w)) (hN : Hid (Nf t N)) (hi : s.i < N) (ho : s.o ≤ 2000) (M : Mj g N c w s #[.int .i64 7, .string ⟨nn.toArray⟩, .slice none 0 0, .slice none 0 0, .int .i64 0, .int .i64 0, .int .i64 0] wr)
    (hPP : ∀ (s' : Sg) (E F : List Po) (K lo hi : Int) (vE vF : Value) (w' : World), s'.i < N → s'.o ≤ 2000 → OwnO w.heap.size w' vE E → OwnO w.heap.size w' vF F → (den (tkT t) s').bnd (fun z => Rs.ok ((⟨7, nn, E, F, K, lo, hi⟩ : Im), z, s'.o)) = (den (tkT t) s).bnd (fun j => (numP (tkT t) j).bnd fun x => (exp (tkT t) 3 x.2).bnd fun z => Rs.ok ((⟨7, nn, [], [], x.1, 0, 0⟩ : Im), z, s.o)) → Below w.heap.size w w' → PP (.returned (.tuple #[s'.v g N c, .agg #[.int .i64 7, .string ⟨nn.toArray⟩, vE, vF, .int .i64 K, .int .i64 lo, .int .i64 hi]])) w') :
    Code.wp Tryd.prog (.seq (sL (sR (sR (sR (sR y0))))) (.seq (sL (sR (sR (sR (sR (sR y0)))))) (.seq (sL (sR (sR (sR (sR (sR (sR y0))))))) (.seq (sL (sR (sR (sR (sR (sR (sR (sR y0)))))))) (.seq (sL (sR (sR (sR (sR (sR (sR (sR (sR y0))))))))) (.seq (sL (sR (sR (sR (sR (sR (sR (sR (sR (sR y0)))))))))) (.seq (sL (sR (sR (sR (sR (sR (sR (sR (sR (sR (sR y0))))))))))) (.seq (sL (sR (sR (sR (sR (sR (sR (sR (sR (sR (sR (sR y0)))))))))))) (.seq (sL (sR (sR (sR (sR (sR (sR (sR (sR (sR (sR (sR (sR y0))))))))))))) (.seq (sL (sR (sR (sR (sR (sR (sR (sR (sR (sR (sR (sR (sR (sR y0)))))))))))))) (.seq (sL (sR (sR (sR (sR (sR (sR (sR (sR (sR (sR (sR (sR (sR (sR y0))))))))))))))) (.seq (sL (sR (sR (sR (sR (sR (sR (sR (sR (sR (sR (sR (sR (sR (sR (sR y0)))))))))))))))) (.seq (sL (sR (sR (sR (sR (sR (sR (sR (sR (sR (sR (sR (sR (sR (sR (sR (sR y0))))))))))))))))) (.seq (sL (sR (sR (sR (sR (sR (sR (sR (sR (sR (sR (sR (sR (sR (sR (sR (sR (sR y0)))))))))))))))))) (.seq (sL (sR (sR (sR (sR (sR (sR (sR (sR (sR (sR (sR (sR (sR (sR (sR (sR (sR (sR y0))))))))))))))))))) (.seq (sL (sR (sR (sR (sR (sR (sR (sR (sR (sR (sR (sR (sR (sR (sR (sR (sR (sR (sR (sR y0)))))))))))))))))))) (.seq (sL (sR (sR (sR (sR (sR (sR (sR (sR (sR (sR (sR (sR (sR (sR (sR (sR (sR (sR (sR (sR y0))))))))))))))))))))) (sR (sR (sR (sR (sR (sR (sR (sR (sR (sR (sR (sR (sR (sR (sR (sR (sR (sR (sR (sR (sR y0)))))))))))))))))))))))))))))))))))))) (bodyPost Tryd.prog Tryd.f15 PP) (Fi w 7 v0 v3 v7 v8 v9 v10 v11 v12 r) wr := by
  obtain ⟨E0, F0⟩ := itRows M.bel
  refine itInit hr (Hid.mk fun r0 hr0 => ?_)
  have M0 := M.below (below_alloc' (below_alloc' (Below.refl _ _) (.cells #[] 82)) (.cells #[] 82))
  refine wp_seq (itC9B hr0 (by decide) (Hid.mk fun r1 hr1 => wp_skip ?_))
  refine wp_seq (itC10B hr1 (by decide) (Hid.mk fun r2 hr2 => wp_skip ?_))
  refine wp_seq (itC11B hr2 (by decide) (Hid.mk fun r3 hr3 => wp_skip ?_))
  refine wp_seq (itC12B hr3 (by decide) (Hid.mk fun r4 hr4 => wp_skip ?_))
  refine wp_seq (itC13B hr4 (by decide) (Hid.mk fun r5 hr5 => wp_skip ?_))
  refine wp_seq (itC14A hr5 (by decide) (Hid.mk fun r6 hr6 => ?_))
  refine itNum32 hr6 hT hN hi (Hid.mk M0) (Hid.mk fun r7 s7 x7 w7 hr7 hi7 ho7 hd7 M7 K7 => ?_)
  have E7 := K7 _ _ E0
  have F7 := K7 _ _ F0
  refine wp_seq (itC15B hr7 (by decide) (Hid.mk fun r8 hr8 => wp_skip ?_))
  obtain ⟨ea, ec, hE⟩ := oshape E7
  obtain ⟨fa, fc, hF⟩ := oshape F7
  have hoF : s7.o ≤ 2000 := by rw [ho7]; exact ho
  refine itTail hr8 hT hN hi7 M7 (fun s' w' h1 h2 h3 h4 h5 => ?_)
  refine hPP s' _ _ _ _ _ _ _ w' h1 (by rw [h2]; exact hoF) (h4 _ _ E7) (h4 _ _ F7) ?_ h5
  refine Eq.symm ?_
  refine (stepD hd7 _).trans ?_
  try dsimp only
  refine (stepT h3 _).trans ?_
  rw [h2, ho7]
theorem itK8 {nn : List UInt8} (hr : r.length = 122) (hT : Hid (Tq t N g w)) (hN : Hid (Nf t N)) (hi : s.i < N) (ho : s.o ≤ 2000) (M : Mj g N c w s #[.int .i64 8, .string ⟨nn.toArray⟩, .slice none 0 0, .slice none 0 0, .int .i64 0, .int .i64 0, .int .i64 0] wr)
    (hPP : ∀ (s' : Sg) (E F : List Po) (K lo hi : Int) (vE vF : Value) (w' : World), s'.i < N → s'.o ≤ 2000 → OwnO w.heap.size w' vE E → OwnO w.heap.size w' vF F → (den (tkT t) s').bnd (fun z => Rs.ok ((⟨8, nn, E, F, K, lo, hi⟩ : Im), z, s'.o)) = (den (tkT t) s).bnd (fun j => (pxS (tkT t) (fuelT t) j s.o).bnd fun e => (exp (tkT t) 44 e.2.1).bnd fun j2 => (sgnP (tkT t) j2).bnd fun y => (exp (tkT t) 7 y.2).bnd fun j3 => (sgnP (tkT t) j3).bnd fun y2 => (exp (tkT t) 3 y2.2).bnd fun z => Rs.ok ((⟨8, nn, e.1, [], 0, y.1, y2.1⟩ : Im), z, e.2.2)) → Below w.heap.size w w' → PP (.returned (.tuple #[s'.v g N c, .agg #[.int .i64 8, .string ⟨nn.toArray⟩, vE, vF, .int .i64 K, .int .i64 lo, .int .i64 hi]])) w') :
    Code.wp Tryd.prog (.seq (sL (sR (sR (sR (sR y0))))) (.seq (sL (sR (sR (sR (sR (sR y0)))))) (.seq (sL (sR (sR (sR (sR (sR (sR y0))))))) (.seq (sL (sR (sR (sR (sR (sR (sR (sR y0)))))))) (.seq (sL (sR (sR (sR (sR (sR (sR (sR (sR y0))))))))) (.seq (sL (sR (sR (sR (sR (sR (sR (sR (sR (sR y0)))))))))) (.seq (sL (sR (sR (sR (sR (sR (sR (sR (sR (sR (sR y0))))))))))) (.seq (sL (sR (sR (sR (sR (sR (sR (sR (sR (sR (sR (sR y0)))))))))))) (.seq (sL (sR (sR (sR (sR (sR (sR (sR (sR (sR (sR (sR (sR y0))))))))))))) (.seq (sL (sR (sR (sR (sR (sR (sR (sR (sR (sR (sR (sR (sR (sR y0)))))))))))))) (.seq (sL (sR (sR (sR (sR (sR (sR (sR (sR (sR (sR (sR (sR (sR (sR y0))))))))))))))) (.seq (sL (sR (sR (sR (sR (sR (sR (sR (sR (sR (sR (sR (sR (sR (sR (sR y0)))))))))))))))) (.seq (sL (sR (sR (sR (sR (sR (sR (sR (sR (sR (sR (sR (sR (sR (sR (sR (sR y0))))))))))))))))) (.seq (sL (sR (sR (sR (sR (sR (sR (sR (sR (sR (sR (sR (sR (sR (sR (sR (sR (sR y0)))))))))))))))))) (.seq (sL (sR (sR (sR (sR (sR (sR (sR (sR (sR (sR (sR (sR (sR (sR (sR (sR (sR (sR y0))))))))))))))))))) (.seq (sL (sR (sR (sR (sR (sR (sR (sR (sR (sR (sR (sR (sR (sR (sR (sR (sR (sR (sR (sR y0)))))))))))))))))))) (.seq (sL (sR (sR (sR (sR (sR (sR (sR (sR (sR (sR (sR (sR (sR (sR (sR (sR (sR (sR (sR (sR y0))))))))))))))))))))) (sR (sR (sR (sR (sR (sR (sR (sR (sR (sR (sR (sR (sR (sR (sR (sR (sR (sR (sR (sR (sR y0)))))))))))))))))))))))))))))))))))))) (bodyPost Tryd.prog Tryd.f15 PP) (Fi w 8 v0 v3 v7 v8 v9 v10 v11 v12 r) wr := by
  obtain ⟨E0, F0⟩ := itRows M.bel
  refine itInit hr (Hid.mk fun r0 hr0 => ?_)
  have M0 := M.below (below_alloc' (below_alloc' (Below.refl _ _) (.cells #[] 82)) (.cells #[] 82))
  refine wp_seq (itC9A hr0 (by decide) (Hid.mk fun r1 hr1 => ?_))
  refine itExpr16 hr1 hT hN hi (Hid.mk M0) ho (Hid.mk fun r2 s2 v2 L2 w2 hr2 hi2 ho2 hd2 hO2 M2 K2 => ?_)
  have F2 := K2 _ _ F0
  refine wp_seq (itC10B hr2 (by decide) (Hid.mk fun r3 hr3 => wp_skip ?_))
  refine wp_seq (itC11C hr3 (by decide) (Hid.mk fun r4 hr4 => ?_))
  show Code.wp _ yIN _ _ _
  rw [yIN_eq]
  refine wp_seq (itTake21 hr4 hT hN hi2 (Hid.mk M2) (Hid.mk fun r5 s5 w5 hr5 hi5 ho5 hd5 M5 K5 => ?_))
  have E5 := K5 _ _ hO2
  have F5 := K5 _ _ F2
  refine wp_seq (itNum22 hr5 hT hN hi5 (Hid.mk M5) (Hid.mk fun r6 s6 x6 w6 hr6 hi6 ho6 hd6 M6 K6 => ?_))
  have E6 := K6 _ _ E5
  have F6 := K6 _ _ F5
  refine wp_seq (itTake23 hr6 hT hN hi6 (Hid.mk M6) (Hid.mk fun r7 s7 w7 hr7 hi7 ho7 hd7 M7 K7 => ?_))
  have E7 := K7 _ _ E6
  have F7 := K7 _ _ F6
  refine itNum24 hr7 hT hN hi7 (Hid.mk M7) (Hid.mk fun r8 s8 x8 w8 hr8 hi8 ho8 hd8 M8 K8 => ?_)
  have E8 := K8 _ _ E7
  have F8 := K8 _ _ F7
  refine wp_seq (itC12B hr8 (by decide) (Hid.mk fun r9 hr9 => wp_skip ?_))
  refine wp_seq (itC13B hr9 (by decide) (Hid.mk fun r10 hr10 => wp_skip ?_))
  refine wp_seq (itC14B hr10 (by decide) (Hid.mk fun r11 hr11 => wp_skip ?_))
  refine wp_seq (itC15B hr11 (by decide) (Hid.mk fun r12 hr12 => wp_skip ?_))
  obtain ⟨ea, ec, hE⟩ := oshape E8
  obtain ⟨fa, fc, hF⟩ := oshape F8
  subst hE
  have hoF : s8.o ≤ 2000 := by rw [ho8, ho7, ho6, ho5]; exact ho2
  refine itTail hr12 hT hN hi8 M8 (fun s' w' h1 h2 h3 h4 h5 => ?_)
  refine hPP s' _ _ _ _ _ _ _ w' h1 (by rw [h2]; exact hoF) (h4 _ _ E8) (h4 _ _ F8) ?_ h5
  refine Eq.symm ?_
  refine (stepD hd2 _).trans ?_
  try dsimp only
  refine (stepT hd5 _).trans ?_
  try dsimp only
  refine (stepD hd6 _).trans ?_
  try dsimp only
  refine (stepT hd7 _).trans ?_
  try dsimp only
  refine (stepD hd8 _).trans ?_
  try dsimp only
  refine (stepT h3 _).trans ?_
  rw [h2, ho8, ho7, ho6, ho5]
theorem itK9 {nn : List UInt8} (hr : r.length = 122) (hT : Hid (Tq t N g w)) (hN : Hid (Nf t N)) (hi : s.i < N) (ho : s.o ≤ 2000) (M : Mj g N c w s #[.int .i64 9, .string ⟨nn.toArray⟩, .slice none 0 0, .slice none 0 0, .int .i64 0, .int .i64 0, .int .i64 0] wr)
    (hPP : ∀ (s' : Sg) (E F : List Po) (K lo hi : Int) (vE vF : Value) (w' : World), s'.i < N → s'.o ≤ 2000 → OwnO w.heap.size w' vE E → OwnO w.heap.size w' vF F → (den (tkT t) s').bnd (fun z => Rs.ok ((⟨9, nn, E, F, K, lo, hi⟩ : Im), z, s'.o)) = (den (tkT t) s).bnd (fun j => (pxS (tkT t) (fuelT t) j s.o).bnd fun e => (exp (tkT t) 46 e.2.1).bnd fun j1 => (numP (tkT t) j1).bnd fun x => (exp (tkT t) 3 x.2).bnd fun z => Rs.ok ((⟨9, nn, e.1, [], x.1, 0, 0⟩ : Im), z, e.2.2)) → Below w.heap.size w w' → PP (.returned (.tuple #[s'.v g N c, .agg #[.int .i64 9, .string ⟨nn.toArray⟩, vE, vF, .int .i64 K, .int .i64 lo, .int .i64 hi]])) w') :
    Code.wp Tryd.prog (.seq (sL (sR (sR (sR (sR y0))))) (.seq (sL (sR (sR (sR (sR (sR y0)))))) (.seq (sL (sR (sR (sR (sR (sR (sR y0))))))) (.seq (sL (sR (sR (sR (sR (sR (sR (sR y0)))))))) (.seq (sL (sR (sR (sR (sR (sR (sR (sR (sR y0))))))))) (.seq (sL (sR (sR (sR (sR (sR (sR (sR (sR (sR y0)))))))))) (.seq (sL (sR (sR (sR (sR (sR (sR (sR (sR (sR (sR y0))))))))))) (.seq (sL (sR (sR (sR (sR (sR (sR (sR (sR (sR (sR (sR y0)))))))))))) (.seq (sL (sR (sR (sR (sR (sR (sR (sR (sR (sR (sR (sR (sR y0))))))))))))) (.seq (sL (sR (sR (sR (sR (sR (sR (sR (sR (sR (sR (sR (sR (sR y0)))))))))))))) (.seq (sL (sR (sR (sR (sR (sR (sR (sR (sR (sR (sR (sR (sR (sR (sR y0))))))))))))))) (.seq (sL (sR (sR (sR (sR (sR (sR (sR (sR (sR (sR (sR (sR (sR (sR (sR y0)))))))))))))))) (.seq (sL (sR (sR (sR (sR (sR (sR (sR (sR (sR (sR (sR (sR (sR (sR (sR (sR y0))))))))))))))))) (.seq (sL (sR (sR (sR (sR (sR (sR (sR (sR (sR (sR (sR (sR (sR (sR (sR (sR (sR y0)))))))))))))))))) (.seq (sL (sR (sR (sR (sR (sR (sR (sR (sR (sR (sR (sR (sR (sR (sR (sR (sR (sR (sR y0))))))))))))))))))) (.seq (sL (sR (sR (sR (sR (sR (sR (sR (sR (sR (sR (sR (sR (sR (sR (sR (sR (sR (sR (sR y0)))))))))))))))))))) (.seq (sL (sR (sR (sR (sR (sR (sR (sR (sR (sR (sR (sR (sR (sR (sR (sR (sR (sR (sR (sR (sR y0))))))))))))))))))))) (sR (sR (sR (sR (sR (sR (sR (sR (sR (sR (sR (sR (sR (sR (sR (sR (sR (sR (sR (sR (sR y0)))))))))))))))))))))))))))))))))))))) (bodyPost Tryd.prog Tryd.f15 PP) (Fi w 9 v0 v3 v7 v8 v9 v10 v11 v12 r) wr := by
  obtain ⟨E0, F0⟩ := itRows M.bel
  refine itInit hr (Hid.mk fun r0 hr0 => ?_)
  have M0 := M.below (below_alloc' (below_alloc' (Below.refl _ _) (.cells #[] 82)) (.cells #[] 82))
  refine wp_seq (itC9A hr0 (by decide) (Hid.mk fun r1 hr1 => ?_))
  refine itExpr16 hr1 hT hN hi (Hid.mk M0) ho (Hid.mk fun r2 s2 v2 L2 w2 hr2 hi2 ho2 hd2 hO2 M2 K2 => ?_)
  have F2 := K2 _ _ F0
  refine wp_seq (itC10B hr2 (by decide) (Hid.mk fun r3 hr3 => wp_skip ?_))
  refine wp_seq (itC11B hr3 (by decide) (Hid.mk fun r4 hr4 => wp_skip ?_))
  refine wp_seq (itC12B hr4 (by decide) (Hid.mk fun r5 hr5 => wp_skip ?_))
  refine wp_seq (itC13B hr5 (by decide) (Hid.mk fun r6 hr6 => wp_skip ?_))
  refine wp_seq (itC14B hr6 (by decide) (Hid.mk fun r7 hr7 => wp_skip ?_))
  refine wp_seq (itC15A hr7 (by decide) (Hid.mk fun r8 hr8 => ?_))
  show Code.wp _ yST _ _ _
  rw [yST_eq]
  refine wp_seq (itTake34 hr8 hT hN hi2 (Hid.mk M2) (Hid.mk fun r9 s9 w9 hr9 hi9 ho9 hd9 M9 K9 => ?_))
  have E9 := K9 _ _ hO2
  have F9 := K9 _ _ F2
  refine itNum35 hr9 hT hN hi9 (Hid.mk M9) (Hid.mk fun r10 s10 x10 w10 hr10 hi10 ho10 hd10 M10 K10 => ?_)
  have E10 := K10 _ _ E9
  have F10 := K10 _ _ F9
  obtain ⟨ea, ec, hE⟩ := oshape E10
  obtain ⟨fa, fc, hF⟩ := oshape F10
  subst hE
  have hoF : s10.o ≤ 2000 := by rw [ho10, ho9]; exact ho2
  refine itTail hr10 hT hN hi10 M10 (fun s' w' h1 h2 h3 h4 h5 => ?_)
  refine hPP s' _ _ _ _ _ _ _ w' h1 (by rw [h2]; exact hoF) (h4 _ _ E10) (h4 _ _ F10) ?_ h5
  refine Eq.symm ?_
  refine (stepD hd2 _).trans ?_
  try dsimp only
  refine (stepT hd9 _).trans ?_
  try dsimp only
  refine (stepD hd10 _).trans ?_
  try dsimp only
  refine (stepT h3 _).trans ?_
  rw [h2, ho10, ho9]
end Go.Proofs.YtfoigigbggickaaDoor.Par
