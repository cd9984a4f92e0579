import Derived.Test.YtfoigigbggickaaDoorPq21
namespace Go.Proofs.YtfoigigbggickaaDoor.Par
open Go Go.RowKit Go.Proofs.YtfoigigbggickaaDoor.Mem Go.Proofs.YtfoigigbggickaaDoor.Syn Go.Proofs.YtfoigigbggickaaDoor.Parse
set_option linter.unusedVariables false
set_option linter.unusedSimpArgs false
attribute [local go_sem ↓] Go.wp_at_zero Go.wp_at_succ

/-- The tokens in block g. -/
structure Tq (t : List UInt8) (N g : Nat) (w : World) : Prop where
  c0 : ∀ k, k < N → w.cell? ⟨g, k * 4, none⟩ = some (.int .i64 (kS (tkT t k)))
  c1 : ∀ k, k < N → w.cell? ⟨g, k * 4 + 1, none⟩ = some (.int .i64 (tkT t k).v)
  c2 : ∀ k, k < N → w.cell? ⟨g, k * 4 + 2, none⟩ = some (.string ⟨(wS (tkT t k)).toArray⟩)
  c3 : ∀ k, k < N → w.cell? ⟨g, k * 4 + 3, none⟩ = some (.int .i64 ((tkT t k).at' : Int))
theorem Tq.below {t : List UInt8} {N g : Nat} {w w' : World} (h : Tq t N g w) (hb : Below w.heap.size w w') : Tq t N g w' :=
  ⟨fun k hk => cell_keep hb (h.c0 k hk), fun k hk => cell_keep hb (h.c1 k hk), fun k hk => cell_keep hb (h.c2 k hk), fun k hk => cell_keep hb (h.c3 k hk)⟩
/-- The specification's parser. -/
def parV (g N c i o : Nat) (e : Int) (a : Nat) : Value := .agg #[.slice (some ⟨g, 0, none⟩) N c, .int .i64 (i : Int), .int .i64 (o : Int), .int .i64 e, .int .i64 (a : Int)]
def fcode (c : Int) (x : Tk) : Int := if x.k = 50 then 2 else if x.k = 51 then 3 else c
theorem kS5 (x : Tk) : (kS x = 5 ↔ x.k = 50) ∧ (kS x = 6 ↔ x.k = 51) := by
  unfold kS
  constructor
  · constructor
    · intro h; split at h; · cases h
      split at h; · cases h
      split at h; · assumption
      split at h; · cases h
      split at h <;> cases h
    · intro h; rw [if_neg (by omega), if_neg (by omega), if_pos h]
  · constructor
    · intro h; split at h; · cases h
      split at h; · cases h
      split at h; · cases h
      split at h; · assumption
      split at h <;> cases h
    · intro h; rw [if_neg (by omega), if_neg (by omega), if_neg (by omega), if_pos h]

set_option maxHeartbeats 1600000 in
set_option maxRecDepth 1000000 in
theorem failS (t : List UInt8) (g N c i o : Nat) (e : Int) (a : Nat) (c0 : Int) (w : World) (hT : Tq t N g w) (hi : i < N) (hN : N ≤ 100000) :
    Calls Tryd.prog 14 #[parV g N c i o e a, .int .i64 c0] w fun e' w' => e' = .returned (parV g N c i o (fcode c0 (tkT t i)) (tkT t i).at') ∧ Below w.heap.size w w' := by
  have y0 := hT.c0 i hi
  have y1 := hT.c1 i hi
  have y2 := hT.c2 i hi
  have y3 := hT.c3 i hi
  have hg := lt_of_cell y0
  have k0 : (0 : Int) ≤ (i : Int) := by omega
  have k1 : (i : Int) < (N : Int) := by omega
  obtain ⟨x, hx⟩ : ∃ x, x = tkT t i := ⟨_, rfl⟩
  rw [← hx] at y0 y1 y2 y3 ⊢
  obtain ⟨h5, h6⟩ := kS5 x
  unfold parV fcode
  clear hx hT
  by_cases e5 : x.k = 50
  · rw [if_pos e5]
    have q1 : (kS x == 5) = true := by simpa using h5.2 e5
    have q2 : (kS x == 6) = false := by simp; intro e; have := h6.1 e; omega
    clear h5 h6 e5
    go_enter Tryd.func14, Tryd.ntmps14
    go_wp2
    refine bodyPost_ret (by simp [results, Tryd.results14, go_sem]; try rfl) rfl ?_
    exact ⟨rfl, by go_grown⟩
  · rw [if_neg e5]
    have q1 : (kS x == 5) = false := by simp; intro e; exact e5 (h5.1 e)
    by_cases e6 : x.k = 51
    · rw [if_pos e6]
      have q2 : (kS x == 6) = true := by simpa using h6.2 e6
      clear h5 h6 e5 e6
      go_enter Tryd.func14, Tryd.ntmps14
      go_wp2
      refine bodyPost_ret (by simp [results, Tryd.results14, go_sem]; try rfl) rfl ?_
      exact ⟨rfl, by go_grown⟩
    · rw [if_neg e6]
      have q2 : (kS x == 6) = false := by simp; intro e; exact e6 (h6.1 e)
      clear h5 h6 e5 e6
      go_enter Tryd.func14, Tryd.ntmps14
      go_wp2
      refine bodyPost_ret (by simp [results, Tryd.results14, go_sem]; try rfl) rfl ?_
      exact ⟨rfl, by go_grown⟩

/-- Is the token this word? -/
def isW (x : Tk) (s : List UInt8) : Bool := (kS x == 1 || kS x == 3) && (wS x == s)
set_option maxHeartbeats 1600000 in
set_option maxRecDepth 1000000 in
theorem isWordS (t : List UInt8) (g N c i o : Nat) (e : Int) (a : Nat) (s : List UInt8) (w : World) (hT : Tq t N g w) (hi : i < N) (hN : N ≤ 100000) :
    Calls Tryd.prog 40 #[parV g N c i o e a, .string ⟨s.toArray⟩] w fun e' w' => e' = .returned (.bool (isW (tkT t i) s)) ∧ Below w.heap.size w w' := by
  have y0 := hT.c0 i hi
  have y1 := hT.c1 i hi
  have y2 := hT.c2 i hi
  have y3 := hT.c3 i hi
  have hg := lt_of_cell y0
  have k0 : (0 : Int) ≤ (i : Int) := by omega
  have k1 : (i : Int) < (N : Int) := by omega
  obtain ⟨x, hx⟩ : ∃ x, x = tkT t i := ⟨_, rfl⟩
  rw [← hx] at y0 y1 y2 y3 ⊢
  unfold parV isW
  clear hx hT
  cases q1 : (kS x == 1) with
  | true =>
    rw [Bool.true_or, Bool.true_and]
    cases q3 : (wS x == s) with
    | true =>
      go_enter Tryd.func40, Tryd.ntmps40
      go_wp2
      go_ret
      exact ⟨rfl, by go_grown⟩
    | false =>
      go_enter Tryd.func40, Tryd.ntmps40
      go_wp2
      go_ret
      exact ⟨rfl, by go_grown⟩
  | false =>
    rw [Bool.false_or]
    cases q2 : (kS x == 3) with
    | true =>
      rw [Bool.true_and]
      cases q3 : (wS x == s) with
      | true =>
        go_enter Tryd.func40, Tryd.ntmps40
        go_wp2
        go_ret
        exact ⟨rfl, by go_grown⟩
      | false =>
        go_enter Tryd.func40, Tryd.ntmps40
        go_wp2
        go_ret
        exact ⟨rfl, by go_grown⟩
    | false =>
      rw [Bool.false_and]
      go_enter Tryd.func40, Tryd.ntmps40
      go_wp2
      go_ret
      exact ⟨rfl, by go_grown⟩

/-- What stands next is asked for: in the specification's parser. -/
def takQ (t : List UInt8) (s : List UInt8) (i : Nat) (e : Int) (a : Nat) : Nat × Int × Nat := if e ≠ 0 then (i, e, a) else if isW (tkT t i) s = true then (i + 1, 0, a) else (i, fcode 4 (tkT t i), (tkT t i).at')
set_option maxHeartbeats 1600000 in
set_option maxRecDepth 1000000 in
theorem takeS (t : List UInt8) (g N c i o : Nat) (e : Int) (a : Nat) (s : List UInt8) (w : World) (hT : Tq t N g w) (hi : i < N) (hN : N ≤ 100000) :
    Calls Tryd.prog 25 #[parV g N c i o e a, .string ⟨s.toArray⟩] w fun e' w' => e' = .returned (parV g N c (takQ t s i e a).1 o (takQ t s i e a).2.1 (takQ t s i e a).2.2) ∧ Below w.heap.size w w' := by
  unfold takQ
  obtain ⟨W1, hW1⟩ : ∃ W, W = (w.alloc (.cells #[.slice (some ⟨g, 0, none⟩) N c, .int .i64 (i : Int), .int .i64 (o : Int), .int .i64 e, .int .i64 (a : Int)] 38)).alloc (.cells #[.slice none 0 0, .int .i64 0, .int .i64 0, .int .i64 0, .int .i64 0] 38) := ⟨_, rfl⟩
  have A1 : Hid (Below w.heap.size w W1) := by rw [hW1]; exact below_alloc' (below_alloc' (Below.refl _ _) _) _
  have B1 : Hid (W1.heap[w.heap.size]? = some (.cells #[.slice (some ⟨g, 0, none⟩) N c, .int .i64 (i : Int), .int .i64 (o : Int), .int .i64 e, .int .i64 (a : Int)] 38)) := by rw [hW1]; exact blk_alloc (blk_new _ _) _
  have R1 : Hid (W1.heap[w.heap.size + 1]? = some (.cells #[.slice none 0 0, .int .i64 0, .int .i64 0, .int .i64 0, .int .i64 0] 38)) := by rw [hW1]; exact blk_new1 _ _ _
  have CI := Hid.mk (isWordS t g N c i o e a s W1 (hT.below A1.out) hi hN)
  have HT := Hid.mk hT
  have e9 : IntKind.i64.wrap ((i : Int) + 1) = ((i + 1 : Nat) : Int) := by rw [IntKind.wrap_i64]; omega
  clear hT
  by_cases he : e ≠ 0
  · rw [if_pos he]
    unfold parV
    go_enter Tryd.func25, Tryd.ntmps25
    go_wp2
    refine bodyPost_ret (by simp [results, Tryd.results25, go_sem]; try rfl) rfl ?_
    exact ⟨rfl, by go_grown⟩
  · rw [if_neg he]
    have he0 : e = 0 := Classical.byContradiction he
    have q0 : (e != 0) = false := by simpa using he0
    cases hw : isW (tkT t i) s with
    | true =>
      rw [if_pos rfl]
      rw [hw] at CI
      unfold parV at CI ⊢
      have HE := Hid.mk he0
      clear he he0 hw
      go_enter Tryd.func25, Tryd.ntmps25
      go_wp2_with fail
      rw [← hW1]
      clear hW1
      refine CI.out.mono ?_
      rintro e' w2 ⟨rfl, hb⟩
      have B2 := Hid.mk (blk_below B1.out hb)
      have R2 := Hid.mk (blk_below R1.out hb)
      have b0 := (blk_cell B2.out 0).trans rfl
      have b1 := (blk_cell B2.out 1).trans rfl
      have b2 := (blk_cell B2.out 2).trans rfl
      have b3 := (blk_cell B2.out 3).trans rfl
      have b4 := (blk_cell B2.out 4).trans rfl
      have f1 := blk_unfrozen B2.out 1
      have r0 := (blk_cell R2.out 0).trans rfl
      have r1 := (blk_cell R2.out 1).trans rfl
      have r2 := (blk_cell R2.out 2).trans rfl
      have r3 := (blk_cell R2.out 3).trans rfl
      have r4 := (blk_cell R2.out 4).trans rfl
      have z0 := blk_unfrozen R2.out 0
      have z1 := blk_unfrozen R2.out 1
      have z2 := blk_unfrozen R2.out 2
      have z3 := blk_unfrozen R2.out 3
      have z4 := blk_unfrozen R2.out 4
      have HB := Hid.mk (below_then A1.out hb)
      clear hb
      go_wp2
      refine bodyPost_ret (by simp [results, Tryd.results25, go_sem, r0, r1, r2, r3, r4]; try rfl) rfl ?_
      refine ⟨?_, ?_⟩
      · rw [HE.out, show ((i + 1 : Nat) : Int) = (i : Int) + 1 by omega]
      · exact (((((HB.out.setCell (p := ⟨w.heap.size, 1, none⟩) (Nat.le_refl _) _).setCell (p := ⟨w.heap.size + 1, 0, none⟩) (by simp) _).setCell (p := ⟨w.heap.size + 1, 1, none⟩) (by simp) _).setCell (p := ⟨w.heap.size + 1, 2, none⟩) (by simp) _).setCell (p := ⟨w.heap.size + 1, 3, none⟩) (by simp) _).setCell (p := ⟨w.heap.size + 1, 4, none⟩) (by simp) _
    | false =>
      rw [if_neg (by simp)]
      rw [hw] at CI
      have CF := Hid.mk (fun (w2 : World) (hb : Below W1.heap.size W1 w2) => failS t g N c i o e a 4 w2 (HT.out.below (below_then A1.out hb)) hi hN)
      unfold parV at CI CF ⊢
      clear he he0 hw
      go_enter Tryd.func25, Tryd.ntmps25
      go_wp2_with fail
      rw [← hW1]
      clear hW1
      refine CI.out.mono ?_
      rintro e' w2 ⟨rfl, hb⟩
      have CF2 := Hid.mk (CF.out w2 hb)
      have B2 := Hid.mk (blk_below B1.out hb)
      have b0 := (blk_cell B2.out 0).trans rfl
      have b1 := (blk_cell B2.out 1).trans rfl
      have b2 := (blk_cell B2.out 2).trans rfl
      have b3 := (blk_cell B2.out 3).trans rfl
      have b4 := (blk_cell B2.out 4).trans rfl
      have R2 := Hid.mk (blk_below R1.out hb)
      have HB2 := Hid.mk (below_then A1.out hb)
      clear hb
      go_wp2_with fail
      refine CF2.out.mono ?_
      rintro e' w3 ⟨rfl, hb⟩
      clear b0 b1 b2 b3 b4
      have R3 := Hid.mk (blk_below R2.out hb)
      have r0 := (blk_cell R3.out 0).trans rfl
      have r1 := (blk_cell R3.out 1).trans rfl
      have r2 := (blk_cell R3.out 2).trans rfl
      have r3 := (blk_cell R3.out 3).trans rfl
      have r4 := (blk_cell R3.out 4).trans rfl
      have z0 := blk_unfrozen R3.out 0
      have z1 := blk_unfrozen R3.out 1
      have z2 := blk_unfrozen R3.out 2
      have z3 := blk_unfrozen R3.out 3
      have z4 := blk_unfrozen R3.out 4
      have HB := Hid.mk (below_then HB2.out hb)
      clear hb
      go_wp2
      refine bodyPost_ret (by simp [results, Tryd.results25, go_sem, r0, r1, r2, r3, r4]; try rfl) rfl ?_
      exact ⟨rfl, ((((HB.out.setCell (p := ⟨w.heap.size + 1, 0, none⟩) (by simp) _).setCell (p := ⟨w.heap.size + 1, 1, none⟩) (by simp) _).setCell (p := ⟨w.heap.size + 1, 2, none⟩) (by simp) _).setCell (p := ⟨w.heap.size + 1, 3, none⟩) (by simp) _).setCell (p := ⟨w.heap.size + 1, 4, none⟩) (by simp) _⟩
end Go.Proofs.YtfoigigbggickaaDoor.Par
namespace Go.Proofs.YtfoigigbggickaaDoor.Par
open Go Go.RowKit Go.Proofs.YtfoigigbggickaaDoor.Mem Go.Proofs.YtfoigigbggickaaDoor.Syn Go.Proofs.YtfoigigbggickaaDoor.Parse
set_option linter.unusedVariables false
set_option linter.unusedSimpArgs false
attribute [local go_sem ↓] Go.wp_at_zero Go.wp_at_succ

/-! Words and symbols are told apart by their kinds. -/
theorem tw_inj : ∀ a b : Fin 50, 3 ≤ a.1 → 3 ≤ b.1 → twAt a.1 = twAt b.1 → a = b := by decide +kernel
theorem wk_tw : ∀ m : Fin 50, 14 ≤ m.1 → wk (twAt m.1) = m.1 := by decide +kernel
theorem tw_sym : ∀ m : Fin 14, 3 ≤ m.1 → letB ((twAt m.1).getD 0 0) = false := by decide
theorem wkF_tw (n : List UInt8) : ∀ (f m : Nat), wkF n m f = 2 ∨ twAt (wkF n m f) = n
  | 0, m => Or.inl rfl
  | f + 1, m => by
    rw [wkF]
    split
    · rename_i h; right; exact (by simpa using h : n = twAt m).symm
    · exact wkF_tw n f (m + 1)
theorem eqW (n : List UInt8) (m : Nat) (h1 : 14 ≤ m) (h2 : m < 50) : (n == twAt m) = decide (wk n = m) := by
  by_cases h : wk n = m
  · rw [decide_eq_true h]
    rcases wkF_tw n 36 14 with h3 | h3
    · have : wk n = 2 := h3
      omega
    · have h3' : twAt (wk n) = n := h3
      rw [h] at h3'
      simp [h3']
  · rw [decide_eq_false h]
    simp
    intro e
    exact h (by rw [e]; exact wk_tw ⟨m, h2⟩ h1)
/-- What a token may be. -/
inductive Tc (x : Tk) : Prop
  | fin (h : x.n = []) (hk : x.k = 0 ∨ x.k = 50 ∨ x.k = 51)
  | num (h : x.n = []) (hk : x.k = 1)
  | sym (h : x.n = []) (h3 : 3 ≤ x.k) (h14 : x.k < 14)
  | word (h : x.n ≠ []) (hk : x.k = wk x.n) (hl : letB (x.n.getD 0 0) = true)
theorem tk_cl (t : List UInt8) (i : Nat) : Tc (tkT t i) := by
  by_cases h : (tkT t i).n = []
  · have hx : ∀ j, (lexAt t j).1.n = [] → Tc (lexAt t j).1 := by
      intro j
      unfold lexAt
      cases hd : t.drop j with
      | nil => intro _; exact .fin rfl (Or.inl rfl)
      | cons c r =>
        dsimp only
        split
        · rename_i hl
          split
          · intro e
            have hp := run_pos (r := r) (wB_let hl)
            have e' : run (c :: r) = [] := e
            rw [e'] at hp
            simp at hp
          · intro _; exact .fin rfl (Or.inr (Or.inr rfl))
        · split
          · split
            · intro _; exact .num rfl rfl
            · intro _; exact .fin rfl (Or.inr (Or.inr rfl))
          · split
            · intro _; exact .fin rfl (Or.inr (Or.inl rfl))
            · rename_i hs
              intro _
              exact .sym rfl (Or.resolve_left (symL_ge (c :: r)) hs) (symL_le (c :: r))
    exact hx _ h
  · have := (tk_ok t i).nm h
    exact .word h this.1 this.2.2
theorem Tc.kS_word {x : Tk} (h : x.n ≠ []) (hk : x.k = wk x.n) : kS x = 1 ∧ wS x = x.n := by
  have h1 := wk_le x.n
  have h2 := wk_ge x.n
  unfold kS wS
  refine ⟨?_, if_neg h⟩
  rw [if_neg (by omega), if_neg (by omega), if_neg (by omega), if_neg (by omega), if_neg h]
theorem Tc.kS_sym {x : Tk} (h : x.n = []) (h3 : 3 ≤ x.k) (h14 : x.k < 14) : kS x = 3 ∧ wS x = twAt x.k := by
  unfold kS wS
  refine ⟨?_, if_pos h⟩
  rw [if_neg (by omega), if_neg (by omega), if_neg (by omega), if_neg (by omega), if_pos h]
theorem kS_le (x : Tk) : (4 < kS x ↔ 50 ≤ x.k) ∨ 51 < x.k := by
  by_cases h : 51 < x.k
  · exact Or.inr h
  · left
    unfold kS
    split; · constructor <;> intro _ <;> omega
    split; · constructor <;> intro _ <;> omega
    split; · constructor <;> intro _ <;> omega
    split; · constructor <;> intro _ <;> omega
    split <;> constructor <;> intro _ <;> omega
/-- The token is this word, or this symbol: its kind says so. -/
theorem isW_k {x : Tk} (h : Tc x) {m : Nat} (h1 : 3 ≤ m) (h2 : m < 50) : isW x (twAt m) = decide (x.k = m) := by
  unfold isW
  cases h with
  | fin h hk =>
    have : (kS x == 1 || kS x == 3) = false := by
      unfold kS
      rcases hk with hk | hk | hk <;> rw [hk] <;> simp
    rw [this, Bool.false_and, decide_eq_false (by omega)]
  | num h hk =>
    have : (kS x == 1 || kS x == 3) = false := by unfold kS; rw [hk]; simp
    rw [this, Bool.false_and, decide_eq_false (by omega)]
  | sym h h3 h14 =>
    obtain ⟨e1, e2⟩ := Tc.kS_sym h h3 h14
    rw [e1, e2]
    show (twAt x.k == twAt m) = _
    by_cases e : x.k = m
    · rw [e]; simp
    · rw [decide_eq_false e]
      simp
      intro e3
      exact e (by simpa using congrArg Fin.val (tw_inj ⟨x.k, by omega⟩ ⟨m, h2⟩ h3 h1 e3))
  | word h hk hl =>
    obtain ⟨e1, e2⟩ := Tc.kS_word h hk
    rw [e1, e2]
    show (x.n == twAt m) = _
    by_cases h14 : 14 ≤ m
    · rw [eqW _ _ h14 h2, hk]
    · have hg := wk_ge x.n
      rw [decide_eq_false (by omega)]
      simp
      intro e
      have := tw_sym ⟨m, by omega⟩ h1
      rw [e] at hl
      simp only at this
      rw [this] at hl
      cases hl
theorem atF_wk (n : List UInt8) : atF n 0 13 = if 30 ≤ wk n ∧ wk n ≤ 42 then (wk n : Int) - 30 else -1 := by
  by_cases h : 30 ≤ wk n ∧ wk n ≤ 42
  · rw [if_pos h]
    have hj : ∀ j, j < wk n - 30 → (twAt (30 + j) == n) = false := fun j hj => by
      rw [Bool.beq_comm, eqW _ _ (by omega) (by omega)]
      simp; omega
    rw [atF_eq (k := wk n - 30) (by omega) hj, show 13 - (wk n - 30) = (42 - wk n) + 1 by omega, atF, if_pos]
    · omega
    · rw [Bool.beq_comm, eqW _ _ (by omega) (by omega)]; simp; omega
  · rw [if_neg h]
    have hj : ∀ j, j < 13 → (twAt (30 + j) == n) = false := fun j hj => by
      rw [Bool.beq_comm, eqW _ _ (by omega) (by omega)]
      simp; omega
    rw [atF_eq (k := 13) (by omega) hj]
    rfl
theorem res_wk (n : List UInt8) : resB n = decide (wk n ≠ 2) := by
  have := wk_name n
  cases h : resB n with
  | true => rw [h] at this; simp at this; simp; omega
  | false => rw [h] at this; simp at this; simp; omega

/-! Binary operators. -/
theorem bstrS (v : Int) (w : World) : Calls Tryd.prog 47 #[.int .i64 v] w fun e w' => e = .returned (.int .i64 (bstr v)) ∧ w' = w := by
  have : v = 0 ∨ v = 1 ∨ v = 2 ∨ v = 6 ∨ v = 7 ∨ (v ≠ 0 ∧ v ≠ 1 ∧ v ≠ 2 ∧ v ≠ 6 ∧ v ≠ 7) := by omega
  rcases this with rfl | rfl | rfl | rfl | rfl | ⟨h0, h1, h2, h6, h7⟩
  · go_enter Tryd.func47, Tryd.ntmps47
    go_wp2
    go_ret
    exact ⟨rfl, rfl⟩
  · go_enter Tryd.func47, Tryd.ntmps47
    go_wp2
    go_ret
    exact ⟨rfl, rfl⟩
  · go_enter Tryd.func47, Tryd.ntmps47
    go_wp2
    go_ret
    exact ⟨rfl, rfl⟩
  · go_enter Tryd.func47, Tryd.ntmps47
    go_wp2
    go_ret
    exact ⟨rfl, rfl⟩
  · go_enter Tryd.func47, Tryd.ntmps47
    go_wp2
    go_ret
    exact ⟨rfl, rfl⟩
  · have hv : Hid (bstr v = 3) := by unfold Hid bstr; rw [if_neg h0, if_neg (by omega), if_neg h6, if_neg h7]
    have f0 : (v == 0) = false := by simpa using h0
    have f1 : (v == 1) = false := by simpa using h1
    have f2 : (v == 2) = false := by simpa using h2
    have f6 : (v == 6) = false := by simpa using h6
    have f7 : (v == 7) = false := by simpa using h7
    go_enter Tryd.func47, Tryd.ntmps47
    go_wp2
    go_ret
    rw [hv.out]
    exact ⟨rfl, rfl⟩
set_option maxHeartbeats 3200000 in
set_option maxRecDepth 100000 in
theorem binTS (v : Int) (w : World) (h0 : 0 ≤ v) (h1 : v ≤ 7) : Calls Tryd.prog 62 #[.int .i64 v] w fun e w' => e = .returned (.string ⟨(twAt (8 + v.toNat)).toArray⟩) ∧ w' = w := by
  have hc : v = 0 ∨ v = 1 ∨ v = 2 ∨ v = 3 ∨ v = 4 ∨ v = 5 ∨ v = 6 ∨ v = 7 := by omega
  rcases hc with rfl | rfl | rfl | rfl | rfl | rfl | rfl | rfl <;>
  · go_enter Tryd.func62, Tryd.ntmps62
    go_wp2
    go_ret
    exact ⟨rfl, rfl⟩
/-- The binary operator of a token: its number, or -1. -/
def bnV (k : Nat) : Int := if isB k = true then (k : Int) - 8 else -1
set_option maxHeartbeats 1600000 in
set_option maxRecDepth 1000000 in
theorem binOfS (x : Tk) (h : Tc x) (hk : kS x = 1 ∨ kS x = 3) (w : World) : Calls Tryd.prog 45 #[.string ⟨(wS x).toArray⟩] w fun e w' => e = .returned (.int .i64 (bnV x.k)) ∧ w' = w := by
  have HW : Hid (∀ m, 3 ≤ m → m < 50 → (twAt m == wS x) = decide (x.k = m)) := fun m h1 h2 => by
    have := isW_k h h1 h2
    unfold isW at this
    have hb : (kS x == 1 || kS x == 3) = true := by rcases hk with e | e <;> rw [e] <;> rfl
    rw [hb, Bool.true_and] at this
    rw [Bool.beq_comm]; exact this
  obtain ⟨n, hn⟩ : ∃ n, n = wS x := ⟨_, rfl⟩
  rw [← hn] at HW ⊢
  clear hn h hk
  go_enter Tryd.func45, Tryd.ntmps45
  go_wp2
  go_loop [3] (fun i => ∃ k : Nat, k ≤ 8 ∧ i = .int .i64 (k : Int) ∧ Hid (∀ j, j < k → x.k ≠ 8 + j)) (fun i => 8 - (intOf i).toNat)
  case atStart => exact ⟨0, by omega, rfl, fun j hj => by omega⟩
  case round =>
    obtain ⟨k, hk, rfl, ha⟩ := hrel
    by_cases hlt : k < 8
    · have CB := Hid.mk (fun W => binTS (k : Int) W (by omega) (by omega))
      rw [show 8 + (k : Int).toNat = 8 + k by omega] at CB
      have he := HW.out (8 + k) (by omega) (by omega)
      by_cases hx : x.k = 8 + k
      · have hv : Hid (bnV x.k = (k : Int)) := by unfold Hid bnV isB; rw [hx]; simp; omega
        rw [decide_eq_true hx] at he
        clear hx
        go_wp2_with (go_at_call 62; refine (CB.out _).mono ?_; rintro e w' ⟨rfl, rfl⟩)
        go_ret
        rw [hv.out]
        exact ⟨rfl, rfl⟩
      · have hv : Hid (∀ j, j < k + 1 → x.k ≠ 8 + j) := fun j hj => by
          by_cases e : j = k
          · rw [e]; exact hx
          · exact ha.out j (by omega)
        rw [decide_eq_false hx] at he
        clear hx
        go_wp2_with (go_at_call 62; refine (CB.out _).mono ?_; rintro e w' ⟨rfl, rfl⟩)
        exact ⟨⟨k + 1, by omega, by go_num, hv⟩, by simp [intOf]; omega⟩
    · obtain rfl : k = 8 := by omega
      have hv : Hid (bnV x.k = -1) := by
        unfold Hid bnV isB
        rw [if_neg]
        simp
        intro h8
        have := ha.out (x.k - 8)
        omega
      go_wp2
      go_ret
      rw [hv.out]
      exact ⟨rfl, rfl⟩
theorem tagT_iff {x : Tk} (h : Tc x) : tagT x = true ↔ kS x = 1 ∧ x.n.length = 1 ∧ (x.n.getD 0 0).toNat ≤ 112 := by
  unfold tagT
  cases h with
  | word h hk hl => rw [(Tc.kS_word h hk).1]; simp; omega
  | fin h hk => rw [h]; simp
  | num h hk => rw [h]; simp
  | sym h h3 h14 => rw [h]; simp
set_option maxHeartbeats 1600000 in
theorem isTagS (n : List UInt8) (hl : n.length ≤ 65536) (h0 : letB (n.getD 0 0) = true) (w : World) : Calls Tryd.prog 42 #[.string ⟨n.toArray⟩] w fun e w' => e = .returned (.bool (n.length == 1 && decide ((n.getD 0 0).toNat ≤ 112))) ∧ w' = w := by
  by_cases h1 : n.length = 1
  · obtain ⟨c, rfl⟩ : ∃ c, n = [c] := by
      cases n with
      | nil => simp at h1
      | cons c r => cases r with
        | nil => exact ⟨c, rfl⟩
        | cons d r => simp at h1
    have h97 : (97 : Int) ≤ (c.toNat : Int) := by unfold letB at h0; simp at h0; omega
    have hv : decide ((c.toNat : Int) ≤ 112) = decide (c.toNat ≤ 112) := by apply decide_eq_decide.2; omega
    go_enter Tryd.func42, Tryd.ntmps42
    go_wp2
    go_ret
    refine ⟨?_, rfl⟩
    show Ending.returned (Value.bool (decide ((c.toNat : Int) ≤ 112))) = Ending.returned (Value.bool (decide (c.toNat ≤ 112)))
    rw [hv]
  · have hv : Hid ((n.length == 1 && decide ((n.getD 0 0).toNat ≤ 112)) = false) := by unfold Hid; rw [show (n.length == 1) = false by simpa using h1]; rfl
    have h2 : ((n.length : Int) == 1) = false := by simp; omega
    go_enter Tryd.func42, Tryd.ntmps42
    go_wp2
    go_ret
    rw [hv.out]
    exact ⟨rfl, rfl⟩
end Go.Proofs.YtfoigigbggickaaDoor.Par
