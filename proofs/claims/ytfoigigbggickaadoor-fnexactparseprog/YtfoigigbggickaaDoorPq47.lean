import Derived.Test.YtfoigigbggickaaDoorPq46
namespace Go.Proofs.YtfoigigbggickaaDoor.Par
open Go Go.RowKit Go.Proofs.YtfoigigbggickaaDoor.Mem Go.Proofs.YtfoigigbggickaaDoor.Syn Go.Proofs.YtfoigigbggickaaDoor.Parse
set_option linter.unusedVariables false
set_option linter.unusedSimpArgs false

section
variable {T : Nat → Tk} {F j o : Nat}
theorem iK2 : itemK T F 2 j o = (pxS T F j o).bnd fun e => (exp T 3 e.2.1).bnd fun z => Rs.ok ((⟨2, [], e.1, [], 0, 0, 0⟩ : Im), z, e.2.2) := by
  unfold itemK
  rw [if_neg (show ¬ (2 = 1) by omega), if_pos (show 2 = 2 ∨ 2 = 3 by omega)]
  exact (pxS_exp (m := 3) (by omega) _).symm
theorem iK3 : itemK T F 3 j o = (pxS T F j o).bnd fun e => (exp T 3 e.2.1).bnd fun z => Rs.ok ((⟨3, [], e.1, [], 0, 0, 0⟩ : Im), z, e.2.2) := by
  unfold itemK
  rw [if_neg (show ¬ (3 = 1) by omega), if_pos (show 3 = 2 ∨ 3 = 3 by omega)]
  exact (pxS_exp (m := 3) (by omega) _).symm
theorem iK4 : itemK T F 4 j o = (pxS T F j o).bnd fun e => (exp T 43 e.2.1).bnd fun j1 => (sgnP T j1).bnd fun x => (exp T 44 x.2).bnd fun j2 => (sgnP T j2).bnd fun y => (exp T 7 y.2).bnd fun j3 => (sgnP T j3).bnd fun y2 => (exp T 3 y2.2).bnd fun z => Rs.ok ((⟨4, [], e.1, [], x.1, y.1, y2.1⟩ : Im), z, e.2.2) := by
  unfold itemK
  rw [if_neg (show ¬ (4 = 1) by omega), if_neg (show ¬ (4 = 2 ∨ 4 = 3) by omega), if_pos (show 4 = 4 by omega)]
  unfold spanP
  simp only [bnd_assoc', bnd_ok]
  exact (pxS_exp (m := 43) (by omega) _).symm
theorem iK5 : itemK T F 5 j o = (pxS T F j o).bnd fun e => (exp T 45 e.2.1).bnd fun j1 => (pxS T F j1 e.2.2).bnd fun f => (exp T 3 f.2.1).bnd fun z => Rs.ok ((⟨5, [], e.1, f.1, 0, 0, 0⟩ : Im), z, f.2.2) := by
  unfold itemK
  rw [if_neg (show ¬ (5 = 1) by omega), if_neg (show ¬ (5 = 2 ∨ 5 = 3) by omega), if_neg (show ¬ (5 = 4) by omega), if_pos (show 5 = 5 by omega)]
  refine Eq.symm ((pxS_exp (m := 45) (by omega) _).trans (bnd_congr' _ fun e => bnd_congr' _ fun j1 => ?_))
  exact pxS_exp (m := 3) (by omega) _
theorem iK6 : itemK T F 6 j o = (tagP T j).bnd fun x => (tagP T x.2).bnd fun y => (exp T 3 y.2).bnd fun z => Rs.ok ((⟨6, [], [], [], x.1, y.1, 0⟩ : Im), z, o) := by
  unfold itemK
  rw [if_neg (show ¬ (6 = 1) by omega), if_neg (show ¬ (6 = 2 ∨ 6 = 3) by omega), if_neg (show ¬ (6 = 4) by omega), if_neg (show ¬ (6 = 5) by omega), if_pos (show 6 = 6 by omega)]
theorem iK7 : itemK T F 7 j o = (numP T j).bnd fun x => (exp T 3 x.2).bnd fun z => Rs.ok ((⟨7, [], [], [], x.1, 0, 0⟩ : Im), z, o) := by
  unfold itemK
  rw [if_neg (show ¬ (7 = 1) by omega), if_neg (show ¬ (7 = 2 ∨ 7 = 3) by omega), if_neg (show ¬ (7 = 4) by omega), if_neg (show ¬ (7 = 5) by omega), if_neg (show ¬ (7 = 6) by omega), if_pos (show 7 = 7 by omega)]
theorem iK8 : itemK T F 8 j o = (pxS T F j o).bnd fun e => (exp T 44 e.2.1).bnd fun j2 => (sgnP T j2).bnd fun y => (exp T 7 y.2).bnd fun j3 => (sgnP T j3).bnd fun y2 => (exp T 3 y2.2).bnd fun z => Rs.ok ((⟨8, [], e.1, [], 0, y.1, y2.1⟩ : Im), z, e.2.2) := by
  unfold itemK
  rw [if_neg (show ¬ (8 = 1) by omega), if_neg (show ¬ (8 = 2 ∨ 8 = 3) by omega), if_neg (show ¬ (8 = 4) by omega), if_neg (show ¬ (8 = 5) by omega), if_neg (show ¬ (8 = 6) by omega), if_neg (show ¬ (8 = 7) by omega), if_pos (show 8 = 8 by omega)]
  unfold spanP
  simp only [bnd_assoc', bnd_ok]
  exact (pxS_exp (m := 44) (by omega) _).symm
theorem iK9 : itemK T F 9 j o = (pxS T F j o).bnd fun e => (exp T 46 e.2.1).bnd fun j1 => (numP T j1).bnd fun x => (exp T 3 x.2).bnd fun z => Rs.ok ((⟨9, [], e.1, [], x.1, 0, 0⟩ : Im), z, e.2.2) := by
  unfold itemK
  rw [if_neg (show ¬ (9 = 1) by omega), if_neg (show ¬ (9 = 2 ∨ 9 = 3) by omega), if_neg (show ¬ (9 = 4) by omega), if_neg (show ¬ (9 = 5) by omega), if_neg (show ¬ (9 = 6) by omega), if_neg (show ¬ (9 = 7) by omega), if_neg (show ¬ (9 = 8) by omega)]
  exact (pxS_exp (m := 46) (by omega) _).symm
theorem iK1 : itemK T F 1 j o = (nameP T j).bnd fun n => (exp T 13 n.2).bnd fun j1 => (pxS T F j1 o).bnd fun e => (exp T 3 e.2.1).bnd fun z => Rs.ok ((⟨1, n.1, e.1, [], 0, 0, 0⟩ : Im), z, e.2.2) := by
  unfold itemK
  rw [if_pos rfl]
  refine bnd_congr' _ fun n => bnd_congr' _ fun j1 => ?_
  exact (pxS_exp (m := 3) (by omega) _).symm
end
theorem frameN2 (v u : Value) (n : Nat) : #[v, u] ++ Array.replicate n undef = (v :: u :: List.replicate n undef).toArray := by
  apply Array.toList_inj.1
  simp
theorem frame15 (v u : Value) : (#[v, u] ++ Array.replicate (Tryd.f15.ntmps - (#[v, u] : Array Value).size) undef) = (v :: u :: List.replicate 133 undef).toArray := frameN2 v u 133
theorem own_none (B : Nat) (w : World) : OwnO B w (.slice none 0 0) [] := ⟨rfl, Or.inl ⟨rfl, rfl⟩⟩
/-- What l2Item answers. -/
def ItD (t : List UInt8) (g N c : Nat) (R : Rs (Im × Nat × Nat)) (w : World) (e : Ending) (w' : World) : Prop :=
  ∃ (s' : Sg) (im : Im) (vE vF : Value), e = .returned (.tuple #[s'.v g N c, .agg (itC im vE vF).toArray]) ∧ s'.i < N ∧ s'.o ≤ 2000 ∧ OwnO w.heap.size w' vE im.E ∧ OwnO w.heap.size w' vF im.F ∧ (den (tkT t) s').bnd (fun z => Rs.ok (im, z, s'.o)) = R ∧ Below w.heap.size w w'
theorem itemD (t : List UInt8) (g N c i o a K : Nat) (w : World) (hT : Tq t N g w) (hN : Nf t N) (hi : i < N) (ho : o ≤ 2000) (hK : (tkT t i).k = K + 15) (h1 : 1 ≤ K) (h9 : K ≤ 9) :
    Calls Tryd.prog 15 #[(⟨i, o, 0, a⟩ : Sg).v g N c, .int .i64 (K : Int)] w fun e w' => ItD t g N c (itemP (tkT t) (fuelT t) i o) w e w' := by
  have hi1 : i + 1 < N := hN.next hi (by omega) (by omega)
  have hP : itemP (tkT t) (fuelT t) i o = (den (tkT t) ⟨i + 1, o, 0, a⟩).bnd fun j => itemK (tkT t) (fuelT t) K j o := by
    unfold itemP; rw [hK, show K + 15 - 15 = K by omega, den_adv]
  rw [hP]
  clear hP
  have HT := Hid.mk hT
  have HN := Hid.mk hN
  have h5 := hN.le
  refine calls_of_wp Tryd.func15 (c := y0) rfl ?_
  rw [frame15, y0_eq]
  refine itStart (s := ⟨i, o, 0, a⟩) List.length_replicate (by show i ≤ 100000; omega) (Hid.mk fun v0 v3 v7 v8 v9 v10 v11 v12 r wx hr M => ?_)
  have fin : ∀ (s : Sg) (nn : List UInt8) (R : Nat → Rs (Im × Nat × Nat)), (den (tkT t) s).bnd R = (den (tkT t) ⟨i + 1, o, 0, a⟩).bnd (fun j => itemK (tkT t) (fuelT t) K j o) → ∀ (s' : Sg) (E F : List Po) (zK lo hi : Int) (vE vF : Value) (w' : World), s'.i < N → s'.o ≤ 2000 → OwnO w.heap.size w' vE E → OwnO w.heap.size w' vF F → (den (tkT t) s').bnd (fun z => Rs.ok ((⟨(K : Int), nn, E, F, zK, lo, hi⟩ : Im), z, s'.o)) = (den (tkT t) s).bnd R → Below w.heap.size w w' → ItD t g N c ((den (tkT t) ⟨i + 1, o, 0, a⟩).bnd (fun j => itemK (tkT t) (fuelT t) K j o)) w (.returned (.tuple #[s'.v g N c, .agg #[.int .i64 (K : Int), .string ⟨nn.toArray⟩, vE, vF, .int .i64 zK, .int .i64 lo, .int .i64 hi]])) w' :=
    fun s nn R hR s' E F zK lo hi vE vF w' h1 h2 h3 h4 h5 h6 => ⟨s', ⟨K, nn, E, F, zK, lo, hi⟩, vE, vF, rfl, h1, h2, h3, h4, h5.trans hR, h6⟩
  by_cases hK1 : K = 1
  · subst hK1
    refine wp_seq (itC3A hr rfl (Hid.mk fun r1 hr1 => ?_))
    show Code.wp _ yLT _ _ _
    rw [yLT_eq]
    obtain ⟨x, hx⟩ : ∃ x, x = tkT t (i + 1) := ⟨_, rfl⟩
    refine wp_seq (itTok4 (s := ⟨i + 1, o, 0, a⟩) hr1 (Hid.mk hx) HT HN hi1 (Hid.mk M) (Hid.mk fun r2 bt w2 hr2 hb2 hbt T2 => ?_))
    have M2 := M.below hb2
    have hfail : x.k ≠ 2 → ∀ (s' : Sg) (w' : World), s' = ⟨i + 1, o, fcode 4 (tkT t (i + 1)), (tkT t (i + 1)).at'⟩ → KR w w2 w' → Below w.heap.size w w' → ItD t g N c ((den (tkT t) ⟨i + 1, o, 0, a⟩).bnd (fun j => itemK (tkT t) (fuelT t) 1 j o)) w (.returned (.tuple #[s'.v g N c, .agg #[.int .i64 ((1 : Nat) : Int), .string ⟨#[]⟩, .slice none 0 0, .slice none 0 0, .int .i64 0, .int .i64 0, .int .i64 0]])) w' := fun h2 s' w' hs' hk' hb' => by
      subst hs'
      refine ⟨_, ⟨1, [], [], [], 0, 0, 0⟩, _, _, rfl, hi1, ho, own_none _ _, own_none _ _, ?_, hb'⟩
      refine den_fail (by decide) (tk_le t (i + 1)) fun h50 => ?_
      rw [iK1]
      unfold nameP exp
      rw [if_neg (by rw [← hx]; exact h2)]
      rfl
    have hc : Tc x := by rw [hx]; exact tk_cl t (i + 1)
    by_cases hk1 : kS x = 1
    · obtain ⟨hwn, hwl⟩ := word_of hc hk1
      have hw : x.k = wk x.n := by
        cases hc with
        | word h hk hl => exact hk
        | fin h hk' => exfalso; unfold kS at hk1; rcases hk' with e | e | e <;> rw [e] at hk1 <;> simp at hk1
        | num h hk' => exfalso; unfold kS at hk1; rw [hk'] at hk1; simp at hk1
        | sym h h3 h14 => exfalso; rw [(Tc.kS_sym h h3 h14).1] at hk1; cases hk1
      by_cases h2 : x.k = 2
      · refine wp_seq (itC5B hr2 (Hid.mk T2) hk1 hwn hw h2 (Hid.mk fun r3 hr3 => wp_skip ?_))
        refine wp_seq (itName7 hr3 (Hid.mk T2) ⟨_, rfl⟩ (Hid.mk M2) (Hid.mk fun r4 hr4 => ?_))
        have M3 := M2.fill 1 (.string ⟨(wS x).toArray⟩)
        refine wp_seq (itInc8 hr4 (Hid.mk M3) (by show i + 1 ≤ 100000; omega) (Hid.mk fun r5 hr5 => ?_))
        have M4 := M3.set (s' := ⟨i + 1 + 1, o, 0, a⟩) (k := 1) (u := .int .i64 ((i + 1 + 1 : Nat) : Int)) rfl
        have hi2 : i + 1 + 1 < N := hN.next hi1 (by rw [← hx]; omega) (by rw [← hx]; omega)
        refine itTake9 hr5 HT HN hi2 (Hid.mk M4) (Hid.mk fun r6 s6 w6 hr6 hi6 ho6 hd6 M6 K6 => ?_)
        rw [hwn] at M6
        have ho6' : s6.o ≤ 2000 := by rw [ho6]; exact ho
        refine itK1 (nn := x.n) hr6 HT HN hi6 ho6' M6 (fin s6 x.n _ ?_)
        rw [ho6]
        have e1 : den (tkT t) ⟨i + 1, o, 0, a⟩ = .ok (i + 1) := den_ok (by rw [← hx]; omega)
        have hnm : nameP (tkT t) (i + 1) = (adv (tkT t) (i + 1)).bnd fun j => Rs.ok (x.n, j) := by
          unfold nameP exp; rw [if_pos (by rw [← hx]; exact h2), ← hx]
        rw [e1, bnd_ok, iK1, hnm, bnd_assoc', hd6, den_adv, bnd_assoc']
        rfl
      · refine wp_seq (itC5C hr2 (Hid.mk T2) hk1 hwn hw h2 (Hid.mk fun r3 hr3 => ?_))
        exact itFail6 hr3 HT HN hi1 (Hid.mk M2) (Hid.mk (hfail h2))
    · have h2 : x.k ≠ 2 := fun e => by
        cases hc with
        | word h hk hl => exact hk1 (Tc.kS_word h hk).1
        | fin h hk' => omega
        | num h hk' => omega
        | sym h h3 h14 => omega
      refine wp_seq (itC5A hr2 (Hid.mk T2) hk1 (Hid.mk fun r3 hr3 => ?_))
      exact itFail6 hr3 HT HN hi1 (Hid.mk M2) (Hid.mk (hfail h2))
  · refine wp_seq (itC3B hr (by omega) (Hid.mk fun r1 hr1 => wp_skip ?_))
    have hKK : K = 2 ∨ K = 3 ∨ K = 4 ∨ K = 5 ∨ K = 6 ∨ K = 7 ∨ K = 8 ∨ K = 9 := by omega
    rcases hKK with rfl | rfl | rfl | rfl | rfl | rfl | rfl | rfl
    · exact itK2 (nn := []) hr1 HT HN hi1 ho M (fin _ [] _ (bnd_congr' _ fun j => iK2.symm))
    · exact itK3 (nn := []) hr1 HT HN hi1 ho M (fin _ [] _ (bnd_congr' _ fun j => iK3.symm))
    · exact itK4 (nn := []) hr1 HT HN hi1 ho M (fin _ [] _ (bnd_congr' _ fun j => iK4.symm))
    · exact itK5 (nn := []) hr1 HT HN hi1 ho M (fin _ [] _ (bnd_congr' _ fun j => iK5.symm))
    · exact itK6 (nn := []) hr1 HT HN hi1 ho M (fin _ [] _ (bnd_congr' _ fun j => iK6.symm))
    · exact itK7 (nn := []) hr1 HT HN hi1 ho M (fin _ [] _ (bnd_congr' _ fun j => iK7.symm))
    · exact itK8 (nn := []) hr1 HT HN hi1 ho M (fin _ [] _ (bnd_congr' _ fun j => iK8.symm))
    · exact itK9 (nn := []) hr1 HT HN hi1 ho M (fin _ [] _ (bnd_congr' _ fun j => iK9.symm))
end Go.Proofs.YtfoigigbggickaaDoor.Par
